/- Plain mathematics: a natural's bytes. -/
import Derived.Test.YtnkpfcbcmfhjkaaGD
namespace Go.Proofs.Ytnkpfcbcmfhjkaa
/-- Byte number k of A, the lowest first. -/
def byt (A k : Nat) : Nat := A / 2 ^ (8 * k) % 256
theorem byt_lt (A k : Nat) : byt A k < 256 := Nat.mod_lt _ (by decide)
theorem byt_bit (A k j : Nat) : (byt A k).testBit j = (decide (j < 8) && A.testBit (8 * k + j)) := by
 unfold byt
 rw [show 256 = 2 ^ 8 from rfl, Nat.testBit_mod_two_pow, Nat.testBit_div_two_pow, Nat.add_comm]
/-- A byte out of the limb that holds it. -/
theorem lm_byt (A k : Nat) : lm A (k / 8) / 2 ^ (k % 8 * 8) % 256 = byt A k := by
 apply Nat.eq_of_testBit_eq
 intro j
 rw [byt_bit, show 256 = 2 ^ 8 from rfl, Nat.testBit_mod_two_pow, Nat.testBit_div_two_pow, lm_testBit]
 by_cases hj : j < 8
 ·rw [decide_eq_true hj, decide_eq_true (show j + k % 8 * 8 < 64 by omega), show 64 * (k / 8) + (j + k % 8 * 8) = 8 * k + j by omega]
  simp
 ·simp [hj]
theorem byt_mod (A k i : Nat) : byt (A % 2 ^ (8 * k)) i = if i < k then byt A i else 0 := by
 apply Nat.eq_of_testBit_eq
 intro j
 rw [byt_bit, Nat.testBit_mod_two_pow]
 split
 ·rw [byt_bit]
  by_cases hj : j < 8
  ·simp [hj, show 8 * i + j < 8 * k by omega]
  ·simp [hj]
 ·rw [Nat.zero_testBit]
  by_cases hj : j < 8
  ·simp [show ¬ 8 * i + j < 8 * k by omega]
  ·simp [hj]
/-- The 32 cells of a natural's bytes, the highest first. -/
def byteC (A : Nat) : Array Value := Array.ofFn (n := 32) fun i => .int .u8 (byt A (31 - i))
theorem byteC_size (A : Nat) : (byteC A).size = 32 := by simp [byteC]
theorem byteC_get (A i : Nat) (h : i < 32) : (byteC A)[i]? = some (.int .u8 (byt A (31 - i))) := by simp [byteC, h]
theorem byteC_snoc (A k v : Nat) (hk : k < 32) (hv : v = byt A k) : (byteC (A % 2 ^ (8 * k))).setIfInBounds (31 - k) (.int .u8 v) = byteC (A % 2 ^ (8 * (k + 1))) := by
 subst hv
 apply Array.ext_getElem?
 intro i
 by_cases hi : i < 32
 ·rw [Array.getElem?_setIfInBounds, byteC_get (A % 2 ^ (8 * (k + 1))) i hi, byt_mod]
  by_cases e : 31 - k = i
  ·rw [if_pos e, if_pos (by rw [byteC_size]; omega), if_pos (by omega), show 31 - i = k by omega]
  ·rw [if_neg e, byteC_get _ i hi, byt_mod]
   by_cases h : 31 - i < k
   ·rw [if_pos h, if_pos (by omega)]
   ·rw [if_neg h, if_neg (by omega)]
 ·rw [Array.getElem?_eq_none (by simp [byteC_size]; omega), Array.getElem?_eq_none (by rw [byteC_size]; omega)]
/-- n bytes of A, the highest first. -/
def bytesL (A n : Nat) : List UInt8 := (List.range n).map fun i => UInt8.ofNat (byt A (n - 1 - i))
theorem bytesL_length (A n : Nat) : (bytesL A n).length = n := by simp [bytesL]
theorem bytesL_get (A n j : Nat) (h : j < (bytesL A n).length) : (bytesL A n)[j] = UInt8.ofNat (byt A (n - 1 - j)) := by simp [bytesL]
/-- How many bytes A needs. -/
def need (A : Nat) : Nat := (bitLen A + 7) / 8
theorem bitLen_le (A n : Nat) (h : A < 2 ^ n) : bitLen A ≤ n := by
 unfold bitLen
 split
 ·omega
 ·rename_i h0
  have := (Nat.log2_lt h0).2 h
  omega
theorem need_le (A : Nat) (h : A < 2 ^ 256) : need A ≤ 32 := by
 have := bitLen_le A 256 h
 unfold need
 omega
/-- A as bytes. -/
def bytesOf (A : Nat) : ByteArray := ⟨(bytesL A (need A)).toArray⟩
end Go.Proofs.Ytnkpfcbcmfhjkaa
/- Plain mathematics: the natural of bytes. -/
namespace Go.Proofs.Ytnkpfcbcmfhjkaa
/-- The natural of which these are the bytes, the highest first. -/
def natB (l : List UInt8) : Nat := l.foldl (fun n b => n * 256 + b.toNat) 0
end Go.Proofs.Ytnkpfcbcmfhjkaa
/- nat.Take. -/
namespace Go.Proofs.Ytnkpfcbcmfhjkaa
open Go.RowKit
/-- Bytes that are no natural's. -/
def badB (s : ByteArray) : Bool := decide (32 < s.size) || (decide (0 < s.size) && (s.data.toList[0]? == some 0))
/-- What Take hands back. -/
def takeN (s : ByteArray) : Nat := if badB s = true then 0 else natB s.data.toList
def takeE (s : ByteArray) : Int := if badB s = true then 4 else 0
end Go.Proofs.Ytnkpfcbcmfhjkaa
/- nat.Bytes. -/
namespace Go.Proofs.Ytnkpfcbcmfhjkaa
open Go.RowKit
theorem info_arr : (Try.prog.info? 96).map (fun i => (i.zero, i.size)) = some (some (.agg (byteC 0)), 32) := by kernel_rfl
theorem zero_arr (w : World) : (zeroValue 96).run Try.prog w = .ok (.agg (byteC 0)) w := (zero_of_info info_arr).1 w
theorem cell_arr {w : World} {b N : Nat} (h : Row w b (byteC N) 96) (i : Nat) (hi : i < 32) : w.cell? ⟨b, i, none⟩ = some (.int .u8 (byt N (31 - i))) := by rw [h.cell]; exact byteC_get _ _ hi
theorem under_bytes : Try.prog.underlying 72 = some (.slice 5) := Try.underlying72
/-- Where the last n of 32 cells begin. -/
def offs (n : Nat) : Nat := if n = 0 then 0 else 32 - n
theorem exec_slice_arr {o : Oper} {ρ : Operand → Value} (x lo : Operand) (ho : o.op = .slice 96 x (some lo) none none) (b n : Nat) (hx : ρ x = .pointer (some ⟨b, 0, none⟩)) (l : Int) (hl : ρ lo = .int .i64 l)
  (hn : n ≤ 32) (hle : l = 32 - n) (w : World) : (execOp ρ o).run Try.prog w = .ok (.value (.slice (some ⟨b, offs n, none⟩) n n)) w := by
 have hr := run_sliceAt_array_l (P := Try.prog) w 96 ⟨b, 0, none⟩ (by kernel_rfl) .i64 l (by omega) (by rw [show Try.prog.arrayLen 96 = 32 from by kernel_rfl]; omega)
 unfold execOp
 simp only [ho, hx, hl, Option.map_some, Option.map_none, Sem.run_bind]
 rw [hr, show Try.prog.elem 96 = 5 from by kernel_rfl, Try.sizeOf5, show Try.prog.arrayLen 96 = 32 from by kernel_rfl]
 subst hle
 have e : ((32 : Int) - n).toNat = 32 - n := by omega
 rw [e]
 unfold slicedAt offs
 by_cases h0 : n = 0
 ·subst h0; rfl
 ·simp only [Result.andThen_ok, Sem.run_pure]
  rw [if_neg (show ¬ 32 = 32 - n by omega), if_neg h0, show 32 - (32 - n) = n by omega]
  have ha : (⟨b, 0, none⟩ : Addr).add ((32 - n) * 1) = ⟨b, 32 - n, none⟩ := by unfold Addr.add; split <;> simp_all
  rw [ha]
theorem exec_string_arr {o : Oper} {ρ : Operand → Value} (x : Operand) (ho : o.op = .convert 72 9 x) (b n A : Nat) (hx : ρ x = .slice (some ⟨b, offs n, none⟩) n n) (hn : n ≤ 32) (w : World)
  (hr : Row w b (byteC A) 96) : (execOp ρ o).run Try.prog w = .ok (.value (.string ⟨(bytesL A n).toArray⟩)) w := by
 unfold execOp
 simp only [ho, hx, Sem.run_bind]
 have h := run_convert_bytes_back (P := Try.prog) w 72 9 5 ⟨b, offs n, none⟩ n (bytesL A n) under_bytes Try.underlying5 Try.underlying9 (fun j hj => by
  have hj' : j < n := by rw [bytesL_length] at hj; exact hj
  have ha : (⟨b, offs n, none⟩ : Addr).add j = ⟨b, offs n + j, none⟩ := by unfold Addr.add; split <;> simp_all
  rw [ha, show offs n + j = 32 - n + j by unfold offs; rw [if_neg (by omega)], cell_arr hr _ (by omega)]
  rw [bytesL_get, UInt8.toNat_ofNat_of_lt' (byt_lt _ _), show 31 - (32 - n + j) = n - 1 - j by omega])
 rw [bytesL_length] at h
 rw [h]
 rfl
set_option maxRecDepth 100000 in
set_option maxHeartbeats 1000000 in
theorem nbytes_any (A : Nat) (w : World) (hA : A < 2 ^ 256) :
  Calls Try.prog 50 #[.agg (natC A)] w fun e w' => e = .returned (.string (bytesOf A)) ∧ Below w.heap.size w w' := by
 have HA : Hid (A < 2 ^ 256) := hA
 clear hA
 go_enter Try.func50, Try.ntmps50
 go_wp2_with (first
  | refine wpList_box_row rfl 52 _ rfl _ rfl ?_
  | refine wpList_alloc_row rfl 96 rfl _ zero_arr ?_)
 go_loopg [6] 32 (fun g s6 wr => ∃ k : Nat, k + g = 32 ∧ s6 = .int .i64 k ∧ Row wr w.heap.size (natC A) 52 ∧ Row wr (w.heap.size + 1) (byteC (A % 2 ^ (8 * k))) 96 ∧ Below w.heap.size w wr)
 case atStart => exact ⟨0, by omega, rfl, Row.one rfl, by rw [show A % 2 ^ (8 * 0) = 0 by simp [Nat.mod_one]]; exact Row.here (by simp), below_alloc2 _ _⟩
 case round =>
  obtain ⟨k, hk, rfl, r0, r1, hb⟩ := hrel
  cases gk with
  | zero =>
   obtain rfl : k = 32 := by omega
   rw [show A % 2 ^ (8 * 32) = A from Nat.mod_eq_of_lt HA.out] at r1
   clear hk
   have hx : ¬ ((32 : Int) < 32) := by omega
   have hn : bitLen A ≤ 256 := bitLen_le A 256 HA.out
   have hn' : (bitLen A : Int) ≤ 256 := by omega
   go_wp2_with (first
    | refine wpList_loadR rfl 52 _ rfl _ rfl r0 4 _ Try.underlying52 (by exact size_nat) ?_
    | (go_at_call 67; refine (nlen_any _ _ HA.out).mono ?_; rintro e w2 ⟨rfl, hb2⟩; have r5 := r1.belowAll hb2; have b5 := below_on hb (Nat.le_refl _) hb2; clear hb2)
    | refine wpList_value rfl _ (exec_slice_arr _ _ rfl (w.heap.size + 1) (need A) rfl _ rfl (need_le A HA.out) (by have := HA.out; unfold need; omega) _) ?_
    | refine wpList_value rfl _ (exec_string_arr _ rfl (w.heap.size + 1) (need A) A rfl (need_le A HA.out) _ r5) ?_)
   go_ret
   exact ⟨rfl, b5⟩
  | succ g =>
   have hlt : (k : Int) < 32 := by omega
   have hk8 : k / 8 < 4 := by omega
   have hc0 := cell_nat r0 (k / 8) (by omega)
   have hc1 := cell_arr r1 (31 - k) (by omega)
   have hf1 := r1.frozen (31 - k)
   have hlm := lm_lt A (k / 8)
   have hsub : ((31 : Int) - k).toNat = 31 - k := by omega
   have R : Aside (Row wr w.heap.size (natC A) 52 ∧ Row wr (w.heap.size + 1) (byteC (A % 2 ^ (8 * k))) 96 ∧ Below w.heap.size w wr) := ⟨r0, r1, hb⟩
   clear r0 r1 hb
   go_wp2
   obtain ⟨r0, r1, hb⟩ := R.out
   go_roundg g
   case measure => omega
   case rel =>
    refine ⟨k + 1, by omega, by go_num, r0.setCell_far _ _ _ (by omega), ?_, below_setCell hb (by omega) _ _⟩
    have := r1.setCell (31 - k) (.int .u8 (byt A k : Nat))
    rw [byteC_snoc A k _ (by omega) rfl] at this
    rw [show ((lm A (k / 8) : Int) / 2 ^ (k % 8 * 8) % 256) = ((byt A k : Nat) : Int) by rw [← lm_byt]; simp]
    exact this
end Go.Proofs.Ytnkpfcbcmfhjkaa
/- The document's Take. -/
namespace Go.Proofs.Ytnkpfcbcmfhjkaa
open Go.RowKit
end Go.Proofs.Ytnkpfcbcmfhjkaa
/- The document's Bytes. -/
namespace Go.Proofs.Ytnkpfcbcmfhjkaa
open Go.RowKit
theorem info_u8 : ∃ i, Try.prog.info? 5 = some i ∧ i.zero = some (.int .u8 0) ∧ i.size = 1 ∧ i.bytes = 1 := by
 have h : (Try.prog.info? 5).map (fun i => (i.zero, i.size, i.bytes)) = some (some (.int .u8 0), 1, 1) := by kernel_rfl
 cases hq : Try.prog.info? 5 with
 | none => simp [hq] at h
 | some i =>
  simp [hq] at h
  exact ⟨i, rfl, h.1, h.2.1, h.2.2⟩
/-- Bytes as cells. -/
def u8s (l : List UInt8) : List Value := l.map fun b => .int .u8 (b.toNat : Int)
theorem own_below {w w' : World} {base : Nat} {e : TypeId} {size : Nat} {v : Value} {n : Nat} {xs : List Value} (h : w.ownsRow base e size v n xs) (hb : Below w.heap.size w w') : w'.ownsRow base e size v n xs := by
 refine ⟨h.1, ?_⟩
 rcases h.2 with hn | ⟨g, cap, cur, rfl, hbs, hgg, rest⟩
 ·exact .inl hn
 ·exact .inr ⟨g, cap, cur, rfl, hbs, (hb.block g (Array.getElem?_eq_some_iff.1 hgg).1).trans hgg, rest⟩
theorem exec_string_own {o : Oper} {ρ : Operand → Value} (x : Operand) (ho : o.op = .convert 72 9 x) (v : Value) (hx : ρ x = v) (base : Nat) (l : List UInt8) (w : World)
  (hown : w.ownsRow base 5 1 v l.length (u8s l)) : (execOp ρ o).run Try.prog w = .ok (.value (.string ⟨l.toArray⟩)) w := by
 unfold execOp
 simp only [ho, hx, Sem.run_bind]
 rcases hown.2 with ⟨rfl, h0⟩ | ⟨g, cap, cur, rfl, _, hgg, hle, _, hcs, htake⟩
 ·obtain rfl : l = [] := List.length_eq_zero_iff.1 h0
  rw [run_convert_bytes_string w 72 9 5 none 0 0 under_bytes Try.underlying5 Try.underlying9]
  rfl
 ·have h := run_convert_bytes_back (P := Try.prog) w 72 9 5 ⟨g, 0, none⟩ cap l under_bytes Try.underlying5 Try.underlying9 (fun j hj => by
   have ha : (⟨g, 0, none⟩ : Addr).add j = ⟨g, j, none⟩ := by unfold Addr.add; split <;> simp_all
   have hj' : (u8s l)[j]? = some (.int .u8 (l[j].toNat : Int)) := by unfold u8s; rw [List.getElem?_map, List.getElem?_eq_getElem hj]; rfl
   have := hown.cells (g := g) rfl j _ hj'
   exact this)
  rw [h]
  rfl
theorem bitI_byt (A i k : Nat) (hi : 8 * i + k < 256) (hk : k < 8) : bitI A ((8 * i + k : Nat) : Int) = if (byt A i).testBit k = true then 1 else 0 := by
 unfold bitI
 rw [Int.toNat_natCast, byt_bit, decide_eq_true hk, Bool.true_and]
 by_cases h : A.testBit (8 * i + k) = true
 ·rw [if_pos h, if_pos ⟨by omega, by omega, h⟩]
 ·rw [if_neg h, if_neg (fun x => h x.2.2)]
theorem or_no (x k : Nat) (h : x % 2 ^ k < 9223372036854775808) : bits BinOp.or IntKind.i64 ((x : Int) % 2 ^ k) 0 = ((x % 2 ^ k : Nat) : Int) := by
 rw [show ((x : Int) % 2 ^ k) = ((x % 2 ^ k : Nat) : Int) by simp, show (0 : Int) = ((0 : Nat) : Int) from rfl, i64_or_nat _ _ h (by decide), Nat.or_zero]
theorem or_yes (x k : Nat) (h : x % 2 ^ k < 9223372036854775808) (hk : k < 63) : bits BinOp.or IntKind.i64 ((x : Int) % 2 ^ k) (wrap64 (2 ^ k)) = ((x % 2 ^ k ||| 2 ^ k : Nat) : Int) := by
 rw [← or_bit_i _ _ h hk, IntKind.wrap_i64, show ((x : Int) % 2 ^ k) = ((x % 2 ^ k : Nat) : Int) by simp]
 simp only [wrap64]
set_option maxRecDepth 100000 in
set_option maxHeartbeats 1000000 in
theorem rbytes_any (A : Nat) (w : World) (hA : A < 2 ^ 256) :
  Calls Try.prog 26 #[.agg (natC A)] w fun e w' => e = .returned (.string (bytesOf A)) ∧ Below w.heap.size w w' := by
 have HA : Hid (A < 2 ^ 256) := hA
 have hn := need_le A hA
 have hbl := bitLen_le A 256 hA
 have HN : Hid (need A = (bitLen A + 7) / 8) := rfl
 clear hA
 have rA := Row.new w (natC A) 52
 go_enter Try.func26, Try.ntmps26
 go_wp2_with (first
  | refine wpList_box_row rfl 52 _ rfl _ rfl ?_
  | refine wpList_loadR rfl 52 _ rfl _ rfl rA 4 _ Try.underlying52 (by exact size_nat) ?_)
 refine (rlen_any _ _ HA.out).mono ?_
 rintro e w1 ⟨rfl, hb1⟩
 replace rA := rA.belowAll hb1
 have b1 := below_on (below_alloc _) (Nat.le_refl _) hb1
 clear hb1
 have hq : ((bitLen A : Int) + 7) / 8 = (need A : Int) := by rw [HN.out]; omega
 have hbl' : (bitLen A : Int) ≤ 256 := by omega
 have hn' : (need A : Int) ≤ 32 := by omega
 have HB : Hid (bytesOf A = ⟨(bytesL A (need A)).toArray⟩) := rfl
 clear HN
 go_wp2
 go_loopg [4, 5] (need A) (fun g s4 s5 wr => g ≤ need A ∧ s5 = .int .i64 ((g : Int) - 1) ∧ wr.ownsRow (w.heap.size + 1) 5 1 s4 (need A - g) (u8s ((bytesL A (need A)).take (need A - g))) ∧ Row wr w.heap.size (natC A) 52 ∧ Below w.heap.size w wr)
 case atStart => exact ⟨Nat.le_refl _, rfl, by rw [Nat.sub_self]; exact World.ownsRow_nil _ _ _ _, rA, b1⟩
 case round =>
  obtain ⟨hg, rfl, hown, r0, hb⟩ := hrel
  clear rA b1
  cases gk with
  | zero =>
   rw [Nat.sub_zero, show (bytesL A (need A)).take (need A) = bytesL A (need A) from List.take_of_length_le (by rw [bytesL_length]; exact Nat.le_refl _)] at hown
   clear hg
   have hx : ¬ ((0 : Int) ≤ -1) := by omega
   have hown' : wr.ownsRow (w.heap.size + 1) 5 1 u4 (bytesL A (need A)).length (u8s (bytesL A (need A))) := by rw [bytesL_length]; exact hown
   clear hown
   go_wp2_with (first
    | refine wpList_value rfl _ (exec_string_own _ rfl _ rfl _ (bytesL A (need A)) _ hown') ?_)
   go_ret
   exact ⟨by rw [HB.out]; rfl, hb⟩
  | succ g =>
   rw [show ((g + 1 : Nat) : Int) - 1 = (g : Int) by omega]
   have hg0 : (0 : Int) ≤ (g : Int) := by omega
   have hg32 : g < 32 := by omega
   have HG : Hid (g + 1 ≤ need A) := hg
   clear hg
   go_wp2
   go_loopg [6, 7] 8 (fun m s6 s7 wq => ∃ k : Nat, k + m = 8 ∧ s6 = .int .i64 ((byt A g % 2 ^ k : Nat) : Int) ∧ s7 = .int .i64 k ∧ wq.ownsRow (w.heap.size + 1) 5 1 u4 (need A - (g + 1)) (u8s ((bytesL A (need A)).take (need A - (g + 1)))) ∧ Row wq w.heap.size (natC A) 52 ∧ Below w.heap.size w wq)
   case atStart => exact ⟨0, by omega, by rw [Nat.pow_zero, Nat.mod_one]; rfl, rfl, hown, r0, hb⟩
   case round =>
    obtain ⟨k, hk, rfl, rfl, own2, r2, hb2⟩ := hrel
    clear hown r0 hb
    cases gk with
    | zero =>
     obtain rfl : k = 8 := by omega
     rw [show byt A g % 2 ^ 8 = byt A g from Nat.mod_eq_of_lt (byt_lt A g)]
     have hx : ¬ ((8 : Int) < 8) := by omega
     have hbv := byt_lt A g
     have hand : bits BinOp.and IntKind.i64 (byt A g : Int) 255 = (byt A g : Int) := by
      rw [show (255 : Int) = ((255 : Nat) : Int) from rfl, i64_and_nat _ _ (by omega) (by decide), show 255 = 2 ^ 8 - 1 from rfl, Nat.and_two_pow_sub_one_eq_mod, Nat.mod_eq_of_lt hbv]
     obtain ⟨inf, hi1, hi2, hi3, hi4⟩ := info_u8
     have own3 := own2.alloc (.cells #[.int .u8 (byt A g : Int)] 5)
     have r3 := r2.alloc (.cells #[.int .u8 (byt A g : Int)] 5)
     have hb3 := hb2.alloc hb2.size (.cells #[.int .u8 (byt A g : Int)] 5)
     have rnew := Row.new wr #[.int .u8 (byt A g : Int)] 5
     clear hk
     have hlt2 := r2.lt
     have hnews : ∀ (j : Nat) (u : Value), [Value.int .u8 (byt A g : Int)][j]? = some u → (wr.alloc (.cells #[.int .u8 (byt A g : Int)] 5)).cell? ((⟨wr.heap.size, 0, none⟩ : Addr).add j) = some u := by
      intro j u hu
      have ha : (⟨wr.heap.size, 0, none⟩ : Addr).add j = ⟨wr.heap.size, j, none⟩ := by unfold Addr.add; split <;> simp_all
      rw [ha, rnew.cell]
      simpa using hu
     have HOW : Aside ((wr.alloc (.cells #[.int .u8 (byt A g : Int)] 5)).ownsRow (w.heap.size + 1) 5 1 u4 (need A - (g + 1)) (u8s ((bytesL A (need A)).take (need A - (g + 1))))) := own3
     have R : Aside (Row (wr.alloc (.cells #[.int .u8 (byt A g : Int)] 5)) w.heap.size (natC A) 52 ∧ Below w.heap.size w (wr.alloc (.cells #[.int .u8 (byt A g : Int)] 5))) := ⟨r3, hb3⟩
     clear own2 r2 hb2 own3 r3 hb3 rnew
     have HNS : Aside (∀ (j : Nat) (u : Value), [Value.int .u8 (byt A g : Int)][j]? = some u → (wr.alloc (.cells #[.int .u8 (byt A g : Int)] 5)).cell? ((⟨wr.heap.size, 0, none⟩ : Addr).add j) = some u) := hnews
     clear hnews
     go_wp2_with (first
      | (at_builtin; refine wpList_append_own _ rfl _ _ 72 rfl (w.heap.size + 1) 5 inf (.int .u8 0) 1 1 under_bytes hi1 hi2 hi3 hi4 rfl (by decide) u4 (need A - (g + 1)) _ rfl HOW.out ⟨wr.heap.size, 0, none⟩ 1 1 [.int .u8 (byt A g : Int)] rfl rfl HNS.out (by simp [Value.oneCell']) (by unfold maxLen; omega) (by omega) (by simp; omega) ?_; intro v' w5 hown5 hgrow _))
     obtain ⟨r3, hb3⟩ := R.out
     have own6 := HOW.out
     have hg' := HG.out
     go_roundg g
     case measure => omega
     case rel =>
      have hblk : ∀ q, u4.ownBlock = some q → w.heap.size + 1 ≤ q := fun q hq => (own6.lt q hq).1
      refine ⟨by omega, rfl, ?_, ?_, hb3.grown hgrow hb3.size (fun q hq => by have := hblk q hq; omega)⟩
      ·rw [show need A - g = need A - (g + 1) + 1 by omega]
       rw [List.take_succ_eq_append_getElem (by rw [bytesL_length]; omega), bytesL_get]
       have e1 : need A - 1 - (need A - (g + 1)) = g := by omega
       rw [e1]
       have e2 : u8s (List.take (need A - (g + 1)) (bytesL A (need A)) ++ [UInt8.ofNat (byt A g)]) = u8s (List.take (need A - (g + 1)) (bytesL A (need A))) ++ [.int .u8 (byt A g : Int)] := by
        unfold u8s
        rw [List.map_append, List.map_singleton, UInt8.toNat_ofNat_of_lt' (byt_lt A g)]
       rw [e2]
       exact hown5
      ·have := hgrow.block w.heap.size r3.lt (fun e => by have := hblk _ e.symm; omega)
       exact this.trans r3
    | succ m =>
     have hk8 : (k : Int) < 8 := by omega
     have hg32' : (g : Int) < 32 := by omega
     have HI := bitI_byt A g k (by omega) (by omega)
     rw [show ((8 * g + k : Nat) : Int) = 8 * (g : Int) + (k : Int) by omega] at HI
     have hbv := byt_lt A g
     have hm : byt A g % 2 ^ k < 9223372036854775808 := Nat.lt_of_le_of_lt (Nat.mod_le _ _) (Nat.lt_of_lt_of_le hbv (by decide))
     have HM : Hid (byt A g % 2 ^ k < 9223372036854775808) := hm
     have hno := mod_snoc_no (byt A g) k
     have hor := mod_snoc_or (byt A g) k
     have R : Aside (wr.ownsRow (w.heap.size + 1) 5 1 u4 (need A - (g + 1)) (u8s ((bytesL A (need A)).take (need A - (g + 1)))) ∧ Row wr w.heap.size (natC A) 52 ∧ Below w.heap.size w wr) := ⟨own2, r2, hb2⟩
     clear hb2 own2 hm hbv
     cases hbit : (byt A g).testBit k
     ·rw [hbit] at HI
      simp only [Bool.false_eq_true, if_false] at HI
      have HJ : Aside (bitI A (8 * (g : Int) + (k : Int)) = 0) := HI
      clear HI
      have HO : Aside (byt A g % 2 ^ (k + 1) = byt A g % 2 ^ k) := hno hbit
      clear hno hor hbit
      go_wp2_with (first
       | refine wpList_loadR rfl 52 _ rfl _ rfl r2 4 _ Try.underlying52 (by exact size_nat) ?_
       | (go_at_call 54; refine (rbit_any A (8 * (g : Int) + (k : Int)) _).mono ?_; rintro e w5 ⟨rfl, hb5⟩; rw [HJ.out]))
      obtain ⟨own5, r5, hb6⟩ := R.out
      go_roundg m
      case measure => omega
      case rel => exact ⟨k + 1, by omega, by rw [HO.out, or_no _ _ HM.out], by go_num, own_below own5 hb5, r5.belowAll hb5, below_on hb6 (Nat.le_refl _) hb5⟩
     ·rw [hbit] at HI
      simp only [if_true] at HI
      have HJ : Aside (bitI A (8 * (g : Int) + (k : Int)) = 1) := HI
      clear HI
      have HO : Aside (byt A g % 2 ^ k ||| 2 ^ k = byt A g % 2 ^ (k + 1)) := hor hbit
      clear hno hor hbit
      go_wp2_with (first
       | refine wpList_loadR rfl 52 _ rfl _ rfl r2 4 _ Try.underlying52 (by exact size_nat) ?_
       | (go_at_call 54; refine (rbit_any A (8 * (g : Int) + (k : Int)) _).mono ?_; rintro e w5 ⟨rfl, hb5⟩; rw [HJ.out]))
      obtain ⟨own5, r5, hb6⟩ := R.out
      go_roundg m
      case measure => omega
      case rel => exact ⟨k + 1, by omega, by rw [← HO.out, or_yes _ _ HM.out (by omega)], by go_num, own_below own5 hb5, r5.belowAll hb5, below_on hb6 (Nat.le_refl _) hb5⟩
end Go.Proofs.Ytnkpfcbcmfhjkaa
/- Plain mathematics: bytes there and back. -/
namespace Go.Proofs.Ytnkpfcbcmfhjkaa
theorem bytesOf_size (A : Nat) : (bytesOf A).size = need A := bytesL_length A (need A)
end Go.Proofs.Ytnkpfcbcmfhjkaa
/- A matrix's bytes, as mathematics: what is put is taken, in one way alone. -/
namespace Go.Proofs.Ytnkpfcbcmfhjkaa
open Go.RowKit
/-- A natural's bytes, behind how many there are. -/
def xmN (A : Nat) : List UInt8 := UInt8.ofNat (need A) :: bytesL A (need A)
/-- So many naturals' bytes. -/
def xmT (G : Nat → Nat) : Nat → List UInt8
 | 0 => []
 | t + 1 => xmT G t ++ xmN (G t)
/-- The bytes of a matrix of n rows of k commitments, G one behind the other. -/
def xmL (n k : Nat) (G : Nat → Nat) : List UInt8 := UInt8.ofNat n :: UInt8.ofNat k :: xmT G (n * k)
/-- A matrix that is to be put. -/
structure XmV (n k : Nat) (G : Nat → Nat) : Prop where
 n1 : 1 ≤ n
 n2 : n ≤ 25
 k1 : 1 ≤ k
 k2 : k ≤ 7
 lt : ∀ t, t < n * k → G t < 2 ^ 256
/-- A natural off the beginning of bytes. -/
def tkN : List UInt8 → Option (Nat × List UInt8)
 | [] => none
 | b :: r => if r.length < b.toNat then none else if takeE ⟨(r.take b.toNat).toArray⟩ = 0 then some (takeN ⟨(r.take b.toNat).toArray⟩, r.drop b.toNat) else none
theorem xmN_length (A : Nat) : (xmN A).length = need A + 1 := by simp [xmN, bytesL_length]
theorem xmT_length {G : Nat → Nat} : ∀ {t : Nat}, (∀ i, i < t → G i < 2 ^ 256) → (xmT G t).length ≤ 33 * t
 | 0, _ => Nat.le_refl _
 | t + 1, h => by
  have h1 := xmT_length (fun i hi => h i (Nat.lt_succ_of_lt hi))
  have h2 := need_le (G t) (h t (by omega))
  rw [xmT, List.length_append, xmN_length]
  omega
theorem ix_div {k j : Nat} (i : Nat) (h : j < k) : (i * k + j) / k = i := by
 rw [Nat.add_comm, Nat.add_mul_div_right _ _ (by omega), Nat.div_eq_of_lt h, Nat.zero_add]
theorem ix_mod {k j : Nat} (i : Nat) (h : j < k) : (i * k + j) % k = j := by
 rw [Nat.add_comm, Nat.add_mul_mod_self_right, Nat.mod_eq_of_lt h]
theorem ix_lt {n k i j : Nat} (hi : i < n) (hj : j < k) : i * k + j < n * k :=
 Nat.lt_of_lt_of_le (by rw [Nat.add_comm]; exact Nat.add_lt_add_right hj _) (by rw [Nat.add_comm, ← Nat.succ_mul]; exact Nat.mul_le_mul_right _ hi)
end Go.Proofs.Ytnkpfcbcmfhjkaa
