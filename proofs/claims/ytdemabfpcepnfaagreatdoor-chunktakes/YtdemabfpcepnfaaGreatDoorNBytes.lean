/- nat.Bytes. -/
import Derived.Test.YtdemabfpcepnfaaGreatDoorGC
import Derived.Test.YtdemabfpcepnfaaGreatDoorTakeB
namespace Go.Proofs.YtdemabfpcepnfaaGreatDoor
open Go.RowKit
theorem info_arr : (Tryz.prog.info? 130).map (fun i => (i.zero, i.size)) = some (some (.agg (byteC 0)), 32) := by kernel_rfl
theorem zero_arr (w : World) : (zeroValue 130).run Tryz.prog w = .ok (.agg (byteC 0)) w := (zero_of_info info_arr).1 w
theorem cell_arr {w : World} {b N : Nat} (h : Row w b (byteC N) 130) (i : Nat) (hi : i < 32) : w.cell? ⟨b, i, none⟩ = some (.int .u8 (byt N (31 - i))) := by rw [h.cell]; exact byteC_get _ _ hi
theorem under_bytes : Tryz.prog.underlying 64 = some (.slice 5) := Tryz.underlying64
/-- Where the last n of 32 cells begin. -/
def offs (n : Nat) : Nat := if n = 0 then 0 else 32 - n
theorem exec_slice_arr {o : Oper} {ρ : Operand → Value} (x lo : Operand) (ho : o.op = .slice 130 x (some lo) none none) (b n : Nat) (hx : ρ x = .pointer (some ⟨b, 0, none⟩)) (l : Int) (hl : ρ lo = .int .i64 l)
  (hn : n ≤ 32) (hle : l = 32 - n) (w : World) : (execOp ρ o).run Tryz.prog w = .ok (.value (.slice (some ⟨b, offs n, none⟩) n n)) w := by
 have hr := run_sliceAt_array_l (P := Tryz.prog) w 130 ⟨b, 0, none⟩ (by kernel_rfl) .i64 l (by omega) (by rw [show Tryz.prog.arrayLen 130 = 32 from by kernel_rfl]; omega)
 unfold execOp
 simp only [ho, hx, hl, Option.map_some, Option.map_none, Sem.run_bind]
 rw [hr, show Tryz.prog.elem 130 = 5 from by kernel_rfl, Tryz.sizeOf5, show Tryz.prog.arrayLen 130 = 32 from by kernel_rfl]
 subst hle
 have e : ((32 : Int) - n).toNat = 32 - n := by omega
 rw [e]
 unfold slicedAt offs
 by_cases h0 : n = 0
 ·subst h0; rfl
 ·simp only [Result.andThen_ok, Sem.run_pure]
  rw [if_neg (show ¬ 32 = 32 - n by omega), if_neg h0, show 32 - (32 - n) = n by omega]
  have ha : (⟨b, 0, none⟩ : Addr).add ((32 - n) * 1) = ⟨b, 32 - n, none⟩ := by unfold Addr.add; split <;> simp_all
  rw [ha]
theorem exec_string_arr {o : Oper} {ρ : Operand → Value} (x : Operand) (ho : o.op = .convert 64 9 x) (b n A : Nat) (hx : ρ x = .slice (some ⟨b, offs n, none⟩) n n) (hn : n ≤ 32) (w : World)
  (hr : Row w b (byteC A) 130) : (execOp ρ o).run Tryz.prog w = .ok (.value (.string ⟨(bytesL A n).toArray⟩)) w := by
 unfold execOp
 simp only [ho, hx, Sem.run_bind]
 have h := run_convert_bytes_back (P := Tryz.prog) w 64 9 5 ⟨b, offs n, none⟩ n (bytesL A n) under_bytes Tryz.underlying5 Tryz.underlying9 (fun j hj => by
  have hj' : j < n := by rw [bytesL_length] at hj; exact hj
  have ha : (⟨b, offs n, none⟩ : Addr).add j = ⟨b, offs n + j, none⟩ := by unfold Addr.add; split <;> simp_all
  rw [ha, show offs n + j = 32 - n + j by unfold offs; rw [if_neg (by omega)], cell_arr hr _ (by omega)]
  rw [bytesL_get, UInt8.toNat_ofNat_of_lt' (byt_lt _ _), show 31 - (32 - n + j) = n - 1 - j by omega])
 rw [bytesL_length] at h
 rw [h]
 rfl
set_option maxRecDepth 100000 in
set_option maxHeartbeats 1000000 in
theorem nbytes_any (A : Nat) (w : World) (hA : A < 2 ^ 256) :
  Calls Tryz.prog 57 #[.agg (natC A)] w fun e w' => e = .returned (.string (bytesOf A)) ∧ Below w.heap.size w w' := by
 have HA : Hid (A < 2 ^ 256) := hA
 clear hA
 go_enter Tryz.func57, Tryz.ntmps57
 go_wp2_with (first
  | refine wpList_box_row rfl 26 _ rfl _ rfl ?_
  | refine wpList_alloc_row rfl 130 rfl _ zero_arr ?_)
 go_loopg [6] 32 (fun g s6 wr => ∃ k : Nat, k + g = 32 ∧ s6 = .int .i64 k ∧ Row wr w.heap.size (natC A) 26 ∧ Row wr (w.heap.size + 1) (byteC (A % 2 ^ (8 * k))) 130 ∧ Below w.heap.size w wr)
 case atStart => exact ⟨0, by omega, rfl, Row.one rfl, by rw [show A % 2 ^ (8 * 0) = 0 by simp [Nat.mod_one]]; exact Row.here (by simp), below_alloc2 _ _⟩
 case round =>
  obtain ⟨k, hk, rfl, r0, r1, hb⟩ := hrel
  cases gk with
  | zero =>
   obtain rfl : k = 32 := by omega
   rw [show A % 2 ^ (8 * 32) = A from Nat.mod_eq_of_lt HA.out] at r1
   clear hk
   have hx : ¬ ((32 : Int) < 32) := by omega
   have hn : bitLen A ≤ 256 := bitLen_le A 256 HA.out
   have hn' : (bitLen A : Int) ≤ 256 := by omega
   go_wp2_with (first
    | refine wpList_loadR rfl 26 _ rfl _ rfl r0 4 _ Tryz.underlying26 (by exact size_nat) ?_
    | (go_at_call 46; refine (nlen_any _ _ HA.out).mono ?_; rintro e w2 ⟨rfl, hb2⟩; have r5 := r1.belowAll hb2; have b5 := below_on hb (Nat.le_refl _) hb2; clear hb2)
    | refine wpList_value rfl _ (exec_slice_arr _ _ rfl (w.heap.size + 1) (need A) rfl _ rfl (need_le A HA.out) (by have := HA.out; unfold need; omega) _) ?_
    | refine wpList_value rfl _ (exec_string_arr _ rfl (w.heap.size + 1) (need A) A rfl (need_le A HA.out) _ r5) ?_)
   go_ret
   exact ⟨rfl, b5⟩
  | succ g =>
   have hlt : (k : Int) < 32 := by omega
   have hk8 : k / 8 < 4 := by omega
   have hc0 := cell_nat r0 (k / 8) (by omega)
   have hc1 := cell_arr r1 (31 - k) (by omega)
   have hf1 := r1.frozen (31 - k)
   have hlm := lm_lt A (k / 8)
   have hsub : ((31 : Int) - k).toNat = 31 - k := by omega
   have R : Aside (Row wr w.heap.size (natC A) 26 ∧ Row wr (w.heap.size + 1) (byteC (A % 2 ^ (8 * k))) 130 ∧ Below w.heap.size w wr) := ⟨r0, r1, hb⟩
   clear r0 r1 hb
   go_wp2
   obtain ⟨r0, r1, hb⟩ := R.out
   go_roundg g
   case measure => omega
   case rel =>
    refine ⟨k + 1, by omega, by go_num, r0.setCell_far _ _ _ (by omega), ?_, below_setCell hb (by omega) _ _⟩
    have := r1.setCell (31 - k) (.int .u8 (byt A k : Nat))
    rw [byteC_snoc A k _ (by omega) rfl] at this
    rw [show ((lm A (k / 8) : Int) / 2 ^ (k % 8 * 8) % 256) = ((byt A k : Nat) : Int) by rw [← lm_byt]; simp]
    exact this
end Go.Proofs.YtdemabfpcepnfaaGreatDoor
