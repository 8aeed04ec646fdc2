/- wide.Div, AddMod, SubMod, MulMod. -/
import Derived.Test.YtdemabfpcepnfaaGreatDoorGG
namespace Go.Proofs.YtdemabfpcepnfaaGreatDoor
open Go.RowKit
theorem modZ_full (N M : Nat) (h : M ≠ 0) : modZ N M = N % M := if_neg h
set_option maxRecDepth 100000 in
set_option maxHeartbeats 1000000 in
theorem wmulmod_any (A B M : Nat) (w : World) (hA : A < 2 ^ 256) (hB : B < 2 ^ 256) (hM : M < 2 ^ 256) :
  Calls Tryz.prog 49 #[.agg (natC A), .agg (natC B), .agg (natC M)] w fun e w' => e = .returned (.tuple #[.agg (natC (modZ (A * B) M)), .int .i64 (errI M)]) ∧ Below w.heap.size w w' := by
 have r3 : Row ((((w.alloc (.cells (natC A) 26)).alloc (.cells (natC B) 26)).alloc (.cells (natC M) 26)).alloc (.cells (natC 0) 26)) w.heap.size (natC A) 26 := (by repeat (first | (refine Row.here ?_; first | (with_reducible rfl) | (simp; done)) | refine Row.alloc ?_ _))
 have r4 : Row ((((w.alloc (.cells (natC A) 26)).alloc (.cells (natC B) 26)).alloc (.cells (natC M) 26)).alloc (.cells (natC 0) 26)) (w.heap.size + 1) (natC B) 26 := (by repeat (first | (refine Row.here ?_; first | (with_reducible rfl) | (simp; done)) | refine Row.alloc ?_ _))
 have r5 : Row ((((w.alloc (.cells (natC A) 26)).alloc (.cells (natC B) 26)).alloc (.cells (natC M) 26)).alloc (.cells (natC 0) 26)) (w.heap.size + 1 + 1) (natC M) 26 := (by repeat (first | (refine Row.here ?_; first | (with_reducible rfl) | (simp; done)) | refine Row.alloc ?_ _))
 have r6 : Row ((((w.alloc (.cells (natC A) 26)).alloc (.cells (natC B) 26)).alloc (.cells (natC M) 26)).alloc (.cells (natC 0) 26)) (w.heap.size + 1 + 1 + 1) (natC 0) 26 := (by repeat (first | (refine Row.here ?_; first | (with_reducible rfl) | (simp; done)) | refine Row.alloc ?_ _))
 have bW : Below w.heap.size w ((((w.alloc (.cells (natC A) 26)).alloc (.cells (natC B) 26)).alloc (.cells (natC M) 26)).alloc (.cells (natC 0) 26)) := (by repeat (first | exact Below.refl _ _ | refine Below.alloc ?_ (by simp <;> omega) _))
 have hAB : A * B < 2 ^ 256 * 2 ^ 256 := Nat.mul_lt_mul'' hA hB
 have hre := fun w' => wrem_any ((A * B) % 2 ^ 256) (A * B / 2 ^ 256) M w' (Nat.mod_lt _ (by decide)) (Nat.div_lt_of_lt_mul hAB) hM
 rw [natC_full, Nat.mul_comm (A * B / 2 ^ 256), Nat.div_add_mod] at hre
 have hmu := fun w' => wmul_any A B w' hA hB
 clear hA hB hM hAB
 generalize modZ (A * B) M = v at *
 generalize A * B / 2 ^ 256 = hi at *
 generalize A * B = lo at *
 go_enter Tryz.func49, Tryz.ntmps49
 go_wp2_with (first
  | refine wpList_box_row rfl 26 _ rfl _ rfl ?_
  | refine wpList_alloc_row rfl 26 rfl _ zero_nat ?_
  | refine wpList_loadR rfl 26 _ rfl _ rfl r3 4 _ Tryz.underlying26 (by exact size_nat) ?_
  | refine wpList_loadR rfl 26 _ rfl (w.heap.size + 1) (by first | rfl | (unfold Act.eval Act.put; simp; done) | (unfold Act.eval; simp; done)) r4 4 _ Tryz.underlying26 (by exact size_nat) ?_)
 generalize (((w.alloc (.cells (natC A) 26)).alloc (.cells (natC B) 26)).alloc (.cells (natC M) 26)).alloc (.cells (natC 0) 26) = w1 at *
 refine (hmu _).mono ?_
 rintro e w3 ⟨rfl, hb2⟩
 have hz := (r6.belowAll hb2).lt
 have a5 : Row ((w3.alloc (.cells (natC 0) 26)).alloc (.cells (natC 0) 26)) w3.heap.size (natC 0) 26 := (by repeat (first | (refine Row.here ?_; first | (with_reducible rfl) | (simp; done)) | refine Row.alloc ?_ _))
 have a6' : Row ((w3.alloc (.cells (natC 0) 26)).alloc (.cells (natC 0) 26)) (w3.heap.size + 1) (natC 0) 26 := (by repeat (first | (refine Row.here ?_; first | (with_reducible rfl) | (simp; done)) | refine Row.alloc ?_ _))
 have a6 := a6'.setRow_far w3.heap.size (natC lo) (by omega)
 have a9 := a6.setRow (natC hi)
 have a8 := (a5.setRow (natC lo)).setRow_far (w3.heap.size + 1) (natC hi) (by omega)
 have aM := ((((r5.belowAll hb2).alloc (.cells (natC 0) 26)).alloc (.cells (natC 0) 26)).setRow_far w3.heap.size (natC lo) (by omega)).setRow_far (w3.heap.size + 1) (natC hi) (by omega)
 have aZ := ((((r6.belowAll hb2).alloc (.cells (natC 0) 26)).alloc (.cells (natC 0) 26)).setRow_far w3.heap.size (natC lo) (by omega)).setRow_far (w3.heap.size + 1) (natC hi) (by omega)
 have b3 := below_on bW (Nat.le_refl _) hb2
 have b5 := below_setRow (below_setRow ((b3.alloc b3.size (.cells (natC 0) 26)).alloc (by have := b3.size; simp; omega) (.cells (natC 0) 26)) (g := w3.heap.size) (by omega) (natC lo)) (g := w3.heap.size + 1) (by omega) (natC hi)
 clear r3 r4 r5 r6 bW hb2 a6' b3 hmu
 go_wp2_with (first
  | refine wpList_alloc_row rfl 26 rfl _ zero_nat ?_
  | refine wpList_storeR rfl 26 _ _ rfl _ _ rfl rfl a5 (by exact size_nat) (by simp only [natC_size]) (natC_one _) ?_
  | refine wpList_storeR rfl 26 _ _ rfl (w3.heap.size + 1) _ (by first | rfl | (unfold Act.eval Act.put; simp; done) | (unfold Act.eval; simp; done)) rfl a6 (by exact size_nat) (by simp only [natC_size]) (natC_one _) ?_
  | refine wpList_loadR rfl 26 _ rfl _ rfl a8 4 _ Tryz.underlying26 (by exact size_nat) ?_
  | refine wpList_loadR rfl 26 _ rfl _ rfl aM 4 _ Tryz.underlying26 (by exact size_nat) ?_
  | refine wpList_loadR rfl 26 _ rfl (w3.heap.size + 1) (by first | rfl | (unfold Act.eval Act.put; simp; done) | (unfold Act.eval; simp; done)) a9 4 _ Tryz.underlying26 (by exact size_nat) ?_)
 refine (hre _).mono ?_
 rintro e w4 ⟨rfl, hb4⟩
 have qZ := aZ.belowAll hb4
 have b6 := below_on b5 (Nat.le_refl _) hb4
 clear a5 a6 a9 a8 aM aZ b5 hb4 hre
 go_wp2_with (first
  | refine wpList_storeR rfl 26 _ _ rfl _ _ rfl rfl qZ (by exact size_nat) (by simp only [natC_size]) (natC_one _) ?_)
 exact ret_row2 rfl _ rfl (qZ.setRow (natC v)) 4 _ Tryz.underlying26 (by exact size_nat) rfl _ rfl ⟨rfl, below_setRow b6 (by omega) _⟩
end Go.Proofs.YtdemabfpcepnfaaGreatDoor
/- wide.SubMod and wide.Div. -/
namespace Go.Proofs.YtdemabfpcepnfaaGreatDoor
open Go.RowKit
/-- A difference by m, where m may be 0. -/
def subZ (A B M : Nat) : Nat := if M = 0 then 0 else (A % M + (M - B % M)) % M
theorem sub_le (x y M : Nat) (h : y ≤ x) (hx : x < M) (hM : M < 2 ^ 256) : natC (less x y) = natC ((x + (M - y)) % M) := by
 rw [show x + (M - y) = x - y + M * 1 by omega, Nat.add_mul_mod_self_left, Nat.mod_eq_of_lt (show x - y < M by omega)]
 refine (natC_eq _ _).2 ?_
 unfold less
 rw [show x + (2 ^ 256 - y) = x - y + 2 ^ 256 * 1 by omega, Nat.add_mul_mod_self_left]
theorem sub_gt (x y M : Nat) (h : x < y) (hy : y < M) (hM : M < 2 ^ 256) : natC (less x y + M) = natC ((x + (M - y)) % M) := by
 rw [Nat.mod_eq_of_lt (show x + (M - y) < M by omega)]
 refine (natC_eq _ _).2 ?_
 unfold less
 rw [show x + (2 ^ 256 - y) + M = x + (M - y) + 2 ^ 256 * 1 by omega, Nat.add_mul_mod_self_left]
end Go.Proofs.YtdemabfpcepnfaaGreatDoor
/- wide.Gcd. -/
namespace Go.Proofs.YtdemabfpcepnfaaGreatDoor
open Go.RowKit
theorem gcd_turn (x y : Nat) : Nat.gcd y (x % y) = Nat.gcd x y := by
 rw [Nat.gcd_comm x y, Nat.gcd_rec y x, Nat.gcd_comm]
set_option maxRecDepth 100000 in
set_option maxHeartbeats 1000000 in
theorem wgcd_any (A B : Nat) (w : World) (hA : A < 2 ^ 256) (hB : B < 2 ^ 256) :
  Calls Tryz.prog 86 #[.agg (natC A), .agg (natC B)] w fun e w' => e = .returned (.agg (natC (Nat.gcd A B))) ∧ Below w.heap.size w w' := by
 have H : Hid (A < 2 ^ 256 ∧ B < 2 ^ 256) := ⟨hA, hB⟩
 clear hA hB
 go_enter Tryz.func86, Tryz.ntmps86
 go_wp2_with (first
  | refine wpList_box_row rfl 26 _ rfl _ rfl ?_
  | refine wpList_alloc_row rfl 26 rfl _ zero_nat ?_)
 simp only [Act.put, List.setIfInBounds_toArray, List.set_cons_zero, List.set_cons_succ, alloc_size]
 go_loopg [] B (fun g wr => ∃ x y : Nat, y ≤ g ∧ x < 2 ^ 256 ∧ y < 2 ^ 256 ∧ Nat.gcd x y = Nat.gcd A B ∧ Row wr w.heap.size (natC x) 26 ∧ Row wr (w.heap.size + 1) (natC y) 26 ∧ Row wr (w.heap.size + 1 + 1) (natC 0) 26 ∧ Below w.heap.size w wr)
 case atStart =>
  exact ⟨A, B, Nat.le_refl _, H.out.1, H.out.2, rfl, (by repeat (first | (refine Row.here ?_; first | (with_reducible rfl) | (simp; done)) | refine Row.alloc ?_ _)), (by repeat (first | (refine Row.here ?_; first | (with_reducible rfl) | (simp; done)) | refine Row.alloc ?_ _)), (by repeat (first | (refine Row.here ?_; first | (with_reducible rfl) | (simp; done)) | refine Row.alloc ?_ _)), (by repeat (first | exact Below.refl _ _ | refine Below.alloc ?_ (by simp <;> omega) _))⟩
 case round =>
  obtain ⟨x, y, hy, hx2, hy2, hg, r2, r3, r4, hb⟩ := hrel
  rcases Nat.eq_zero_or_pos y with rfl | h0
  ·have HV : Hid ((!decide (0 % 2 ^ 256 = 0 % 2 ^ 256)) = false) := rfl
   have HG : Hid (Nat.gcd A B = x) := by show _ = _; rw [← hg, Nat.gcd_zero_right]
   clear hy hx2 hy2 hg H
   go_wp2_with (first
    | refine wpList_build_zero rfl 26 rfl _ built_nat ?_
    | refine wpList_loadR rfl 26 _ rfl _ rfl r3 4 _ Tryz.underlying26 (by exact size_nat) ?_
    | refine wpList_loadR rfl 26 _ rfl _ rfl r2 4 _ Tryz.underlying26 (by exact size_nat) ?_
    | refine wpList_value rfl (.bool false) ((exec_neq_nat _ _ _ rfl 0 0 rfl rfl _).trans (by rw [HV.out])) ?_
    | refine wpList_storeR rfl 26 _ _ rfl _ _ rfl rfl r4 (by exact size_nat) (by simp only [natC_size]) (natC_one _) ?_)
   exact ret_row rfl _ rfl (r4.setRow (natC x)) 4 _ Tryz.underlying26 (by exact size_nat) rfl ⟨by rw [HG.out], below_setRow hb (by omega) _⟩
  ·cases gk with
   | zero => omega
   | succ g =>
    have HV : Hid ((!decide (y % 2 ^ 256 = 0 % 2 ^ 256)) = true) := by
     show _ = _
     rw [Nat.mod_eq_of_lt hy2, decide_eq_false (by simp; omega)]
     rfl
    have hre := fun w' => remains_any x y w' hx2 h0 hy2
    have hlt := Nat.mod_lt x h0
    have HX : Hid (x % y ≤ g ∧ y < 2 ^ 256 ∧ x % y < 2 ^ 256 ∧ Nat.gcd y (x % y) = Nat.gcd A B) := ⟨by omega, hy2, by omega, by rw [gcd_turn]; exact hg⟩
    clear hy hx2 hy2 hg H h0 hlt
    generalize x % y = z at *
    go_wp2_with (first
     | refine wpList_build_zero rfl 26 rfl _ built_nat ?_
     | refine wpList_loadR rfl 26 _ rfl _ rfl r3 4 _ Tryz.underlying26 (by exact size_nat) ?_
     | refine wpList_value rfl (.bool true) ((exec_neq_nat _ _ _ rfl y 0 rfl rfl _).trans (by rw [HV.out])) ?_)
    apply wp_region_mix (by kernel_rfl) [(w.heap.size, 26, natC x), (w.heap.size + 1, 26, natC y)] [_, _, _, _, _, _] ⟨r2, r3, trivial⟩ (by simp <;> omega)
    ·intro p
     refine mx_loadT 2 26 _ rfl rfl rfl 4 _ Tryz.underlying26 size_nat ?_
     simp only [Act.put, pu]
     refine mx_loadT 0 26 _ rfl rfl rfl 4 _ Tryz.underlying26 size_nat ?_
     simp only [Act.put, pu]
     refine mx_loadT 2 26 _ rfl rfl rfl 4 _ Tryz.underlying26 size_nat ?_
     simp only [Act.put, pu]
     refine mx_call 67 _ _ rfl Tryz.func67 (by kernel_rfl) #[.agg (natC x), .agg (natC y)] rfl _ hre ?_
     simp only [Act.put, pu]
     refine mx_put 0 26 _ _ rfl rfl rfl (natC y) rfl (by exact size_nat) (by simp only [natC_size]) (natC_one _) ?_
     simp only [Act.put]
     refine mx_put 2 26 _ _ rfl rfl rfl (natC z) rfl (by exact size_nat) (by simp only [natC_size]) (natC_one _) ?_
     simp only [Act.put]
     refine mx_end ?_
     intro w7 hkw hrw _ _
     have r2' : Row w7 w.heap.size (natC y) 26 := hrw 0 _ rfl
     have r3' : Row w7 (w.heap.size + 1) (natC z) 26 := hrw 2 _ rfl
     have r4' := hkw.row r4 (by simp <;> omega)
     have hb1 := hb.trans (hkw.below w.heap.size hb.size (by simp <;> omega))
     clear r2 r3 r4 hb hkw hrw hre
     go_wp2
     go_roundg g
     case measure => omega
     case rel =>
      obtain ⟨h1, h2, h3, h4⟩ := HX.out
      exact ⟨y, z, h1, h2, h3, h4, r2', r3', r4', hb1⟩
    ·kernel_rfl
end Go.Proofs.YtdemabfpcepnfaaGreatDoor
