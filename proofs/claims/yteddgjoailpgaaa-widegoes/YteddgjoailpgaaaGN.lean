/- The document's Nats: the lower, and the higher 256 bits of digits. -/
import Derived.Test.YteddgjoailpgaaaGM
import Derived.Test.YteddgjoailpgaaaGE
import Derived.Test.YteddgjoailpgaaaGC
import Derived.Test.YteddgjoailpgaaaGI
namespace Go.Proofs.Yteddgjoailpgaaa
open Go.RowKit
set_option maxRecDepth 100000 in
set_option maxHeartbeats 1000000 in
theorem nats_any (N : Nat) (w : World) :
  Calls Try.prog 72 #[.agg (digC N)] w fun e w' => e = .returned (.tuple #[.agg (natC N), .agg (natC (N / 2 ^ 256))]) ∧ Below w.heap.size w w' := by
 have H : Hid (∀ k, dg N (16 + k) = dg (N / 2 ^ 256) k) := high_mod N
 generalize N / 2 ^ 256 = T at *
 have s0 : Row (((((w.alloc (.cells (digC N) 88)).alloc (.cells (natC 0) 24)).alloc (.cells (natC 0) 24)).alloc (.cells (natC 0) 24)).alloc (.cells (natC 0) 24)) w.heap.size (digC N) 88 := (((((Row.here (by first | rfl | simp only [alloc_size])).alloc _).alloc _).alloc _).alloc _)
 have s1 : Row (((((w.alloc (.cells (digC N) 88)).alloc (.cells (natC 0) 24)).alloc (.cells (natC 0) 24)).alloc (.cells (natC 0) 24)).alloc (.cells (natC 0) 24)) (w.heap.size + 1) (natC 0) 24 := ((((Row.here (by first | rfl | simp only [alloc_size])).alloc _).alloc _).alloc _)
 have s2 : Row (((((w.alloc (.cells (digC N) 88)).alloc (.cells (natC 0) 24)).alloc (.cells (natC 0) 24)).alloc (.cells (natC 0) 24)).alloc (.cells (natC 0) 24)) (w.heap.size + 1 + 1) (natC 0) 24 := (((Row.here (by first | rfl | simp only [alloc_size])).alloc _).alloc _)
 have s3 : Row (((((w.alloc (.cells (digC N) 88)).alloc (.cells (natC 0) 24)).alloc (.cells (natC 0) 24)).alloc (.cells (natC 0) 24)).alloc (.cells (natC 0) 24)) (w.heap.size + 1 + 1 + 1) (natC 0) 24 := ((Row.here (by first | rfl | simp only [alloc_size])).alloc _)
 have s4 : Row (((((w.alloc (.cells (digC N) 88)).alloc (.cells (natC 0) 24)).alloc (.cells (natC 0) 24)).alloc (.cells (natC 0) 24)).alloc (.cells (natC 0) 24)) (w.heap.size + 1 + 1 + 1 + 1) (natC 0) 24 := (Row.here (by first | rfl | simp only [alloc_size]))
 have s4' := s4.setRow_far (w.heap.size + 1 + 1 + 1) (natC 0) (by omega)
 have sb : Below w.heap.size w (((((w.alloc (.cells (digC N) 88)).alloc (.cells (natC 0) 24)).alloc (.cells (natC 0) 24)).alloc (.cells (natC 0) 24)).alloc (.cells (natC 0) 24)) := (by repeat (first | exact Below.refl _ _ | refine Below.alloc ?_ (by simp <;> omega) _))
 go_enter Try.func72, Try.ntmps72
 go_wp2_with (first
  | refine wpList_box_row rfl 88 _ rfl _ rfl ?_
  | refine wpList_alloc_row rfl 24 rfl _ zero_nat ?_
  | refine wpList_build_zero rfl 24 rfl _ built_nat ?_
  | refine wpList_storeR rfl 24 _ _ rfl (w.heap.size + 1 + 1 + 1) _ (by first | rfl | (unfold Act.eval Act.put; simp; done) | (unfold Act.eval; simp; done)) rfl s3 (by exact size_nat) (by simp only [natC_size]) (natC_one _) ?_
  | refine wpList_storeR rfl 24 _ _ rfl (w.heap.size + 1 + 1 + 1 + 1) _ (by first | rfl | (unfold Act.eval Act.put; simp; done) | (unfold Act.eval; simp; done)) rfl s4' (by exact size_nat) (by simp only [natC_size]) (natC_one _) ?_)
 have t0 := (s0.setRow_far (w.heap.size + 1 + 1 + 1) (natC 0) (by omega)).setRow_far (w.heap.size + 1 + 1 + 1 + 1) (natC 0) (by omega)
 have t1 := (s1.setRow_far (w.heap.size + 1 + 1 + 1) (natC 0) (by omega)).setRow_far (w.heap.size + 1 + 1 + 1 + 1) (natC 0) (by omega)
 have t2 := (s2.setRow_far (w.heap.size + 1 + 1 + 1) (natC 0) (by omega)).setRow_far (w.heap.size + 1 + 1 + 1 + 1) (natC 0) (by omega)
 have t3 := (s3.setRow (natC 0)).setRow_far (w.heap.size + 1 + 1 + 1 + 1) (natC 0) (by omega)
 have t4 := s4'.setRow (natC 0)
 have tb := below_setRow (below_setRow sb (g := w.heap.size + 1 + 1 + 1) (by omega) (natC 0)) (g := w.heap.size + 1 + 1 + 1 + 1) (by omega) (natC 0)
 clear s0 s1 s2 s3 s4 s4' sb
 generalize (World.setRow (World.setRow (((((w.alloc (.cells (digC N) 88)).alloc (.cells (natC 0) 24)).alloc (.cells (natC 0) 24)).alloc (.cells (natC 0) 24)).alloc (.cells (natC 0) 24)) (w.heap.size + 1 + 1 + 1) (natC 0)) (w.heap.size + 1 + 1 + 1 + 1) (natC 0)) = W at *
 go_loopg [6] 16 (fun g s6 wr => ∃ k : Nat, k + g = 16 ∧ s6 = .int .i64 k ∧ Row wr w.heap.size (digC N) 88 ∧ Row wr (w.heap.size + 1) (natC 0) 24 ∧ Row wr (w.heap.size + 1 + 1) (natC 0) 24 ∧ Row wr (w.heap.size + 1 + 1 + 1) (natC (N % 2 ^ (16 * k))) 24 ∧ Row wr (w.heap.size + 1 + 1 + 1 + 1) (natC (T % 2 ^ (16 * k))) 24 ∧ Below w.heap.size w wr)
 case atStart => exact ⟨0, by omega, rfl, t0, t1, t2, by rw [Nat.mul_zero, Nat.pow_zero, Nat.mod_one]; exact t3, by rw [Nat.mul_zero, Nat.pow_zero, Nat.mod_one]; exact t4, tb⟩
 case round =>
  obtain ⟨k, hk, rfl, r0, r1, r2, r3, r4, hb⟩ := hrel
  clear t0 t1 t2 t3 t4 tb
  cases gk with
  | zero =>
   obtain rfl : k = 16 := by omega
   rw [show 16 * 16 = 256 from rfl, natC_full] at r3 r4
   clear hk H
   have hx : ¬ ((16 : Int) < 16) := by omega
   go_wp2
   apply wp_region_mix (by kernel_rfl) [(w.heap.size + 1, 24, natC 0), (w.heap.size + 1 + 1, 24, natC 0)] [_, _, _, _] ⟨r1, r2, trivial⟩ (by simp <;> omega)
   ·intro p
    refine mx_load 24 _ rfl _ rfl r3 (by simp <;> omega) 4 _ Try.underlying24 size_nat ?_
    simp only [Act.put, pu]
    refine mx_load 24 _ rfl _ rfl r4 (by simp <;> omega) 4 _ Try.underlying24 size_nat ?_
    simp only [Act.put, pu]
    refine mx_put 0 24 _ _ rfl rfl rfl (natC N) rfl (by exact size_nat) (by simp only [natC_size]) (natC_one _) ?_
    simp only [Act.put]
    refine mx_put 2 24 _ _ rfl rfl rfl (natC T) rfl (by exact size_nat) (by simp only [natC_size]) (natC_one _) ?_
    simp only [Act.put]
    refine mx_end ?_
    intro w7 hkw hrw _ _
    have e1 : Row w7 (w.heap.size + 1) (natC N) 24 := hrw 0 _ rfl
    have e2 : Row w7 (w.heap.size + 1 + 1) (natC T) 24 := hrw 2 _ rfl
    have b7 := hb.trans (hkw.below w.heap.size hb.size (by simp <;> omega))
    go_wp2
    exact ret_rows2 rfl _ rfl e1 _ rfl e2 4 _ Try.underlying24 (by exact size_nat) (by exact size_nat) rfl ⟨rfl, b7⟩
   ·kernel_rfl
  | succ g =>
   have hlt : (k : Int) < 16 := by omega
   have hc0 := cell_dig r0 k (by omega)
   have hc0' := cell_dig r0 (16 + k) (by omega)
   rw [H.out] at hc0'
   have hc3 := cell_nat r3 (k / 4) (by omega)
   have hf3 := r3.frozen (k / 4)
   have hc4 := cell_nat r4 (k / 4) (by omega)
   have hf4 := r4.frozen (k / 4)
   have h3 := lm_lt (N % 2 ^ (16 * k)) (k / 4)
   have h4 := lm_lt (T % 2 ^ (16 * k)) (k / 4)
   have d1 := dg_lt N k
   have d2 := dg_lt T k
   have R : Aside (Row wr w.heap.size (digC N) 88 ∧ Row wr (w.heap.size + 1) (natC 0) 24 ∧ Row wr (w.heap.size + 1 + 1) (natC 0) 24 ∧ Row wr (w.heap.size + 1 + 1 + 1) (natC (N % 2 ^ (16 * k))) 24 ∧ Row wr (w.heap.size + 1 + 1 + 1 + 1) (natC (T % 2 ^ (16 * k))) 24 ∧ Below w.heap.size w wr) := ⟨r0, r1, r2, r3, r4, hb⟩
   clear r0 r1 r2 r3 r4 hb
   go_wp2
   go_region
   go_wp2
   go_region
   go_wp2
   obtain ⟨r0, r1, r2, r3, r4, hb⟩ := R.out
   go_roundg g
   case measure => omega
   case rel =>
    rw [or_digit _ _ _ h3 d1 (by omega), or_digit _ _ _ h4 d2 (by omega)]
    refine ⟨k + 1, by omega, by go_num, ((r0.setCell_far _ _ _ (by omega)).setCell_far _ _ _ (by omega)).drew.drew, ((r1.setCell_far _ _ _ (by omega)).setCell_far _ _ _ (by omega)).drew.drew, ((r2.setCell_far _ _ _ (by omega)).setCell_far _ _ _ (by omega)).drew.drew, ?_, ?_, (below_setCell (below_setCell hb (by omega) _ _) (by omega) _ _).drew.drew⟩
    ·have := r3.setCell (k / 4) (.int .u64 ((lm (N % 2 ^ (16 * k)) (k / 4) ||| dg N k * 2 ^ (16 * (k % 4)) : Nat) : Int))
     rw [natC_digit N k (by omega)] at this
     exact (this.setCell_far _ _ _ (by omega)).drew.drew
    ·have := (r4.setCell_far (w.heap.size + 1 + 1 + 1) (k / 4) (.int .u64 ((lm (N % 2 ^ (16 * k)) (k / 4) ||| dg N k * 2 ^ (16 * (k % 4)) : Nat) : Int)) (by omega)).setCell (k / 4) (.int .u64 ((lm (T % 2 ^ (16 * k)) (k / 4) ||| dg T k * 2 ^ (16 * (k % 4)) : Nat) : Int))
     rw [natC_digit T k (by omega)] at this
     exact this.drew.drew
end Go.Proofs.Yteddgjoailpgaaa
/- Plain mathematics: a product digit by digit. -/
namespace Go.Proofs.Yteddgjoailpgaaa
/-- The digits of a number whose digit m is named. -/
theorem dg_put (low m d h j : Nat) (hl : low < 2 ^ (16 * m)) (hd : d < 65536) :
  dg (low + 2 ^ (16 * m) * (d + 65536 * h)) j = if j < m then dg low j else if j = m then d else dg h (j - m - 1) := by
 by_cases h1 : j < m
 ·rw [if_pos h1]
  have e := dg_mod (low + 2 ^ (16 * m) * (d + 65536 * h)) m j
  rw [if_pos h1, Nat.add_mul_mod_self_left, Nat.mod_eq_of_lt hl] at e
  exact e.symm
 ·rw [if_neg h1]
  have hP := Nat.two_pow_pos (16 * m)
  by_cases h2 : j = m
  ·subst h2
   rw [if_pos rfl]
   unfold dg
   rw [Nat.add_mul_div_left _ _ hP, Nat.div_eq_of_lt hl]
   omega
  ·rw [if_neg h2]
   unfold dg
   obtain ⟨n, rfl⟩ : ∃ n, j = m + 1 + n := ⟨j - m - 1, by omega⟩
   rw [show 16 * (m + 1 + n) = 16 * m + (16 + 16 * n) by omega, Nat.pow_add, ← Nat.div_div_eq_div_mul, Nat.add_mul_div_left _ _ hP, Nat.div_eq_of_lt hl, Nat.pow_add, ← Nat.div_div_eq_div_mul,
    show (0 + (d + 65536 * h)) / 2 ^ 16 = h by omega, show m + 1 + n - m - 1 = n by omega]
/-- A number with another digit m. -/
def putD (U m d : Nat) : Nat := U % 2 ^ (16 * m) + 2 ^ (16 * m) * (d + 65536 * (U / 2 ^ (16 * m) / 65536))
theorem putD_is (U m : Nat) : U = U % 2 ^ (16 * m) + 2 ^ (16 * m) * (dg U m + 65536 * (U / 2 ^ (16 * m) / 65536)) := by
 have h1 := Nat.div_add_mod U (2 ^ (16 * m))
 have h2 : dg U m + 65536 * (U / 2 ^ (16 * m) / 65536) = U / 2 ^ (16 * m) := by unfold dg; omega
 rw [h2]; omega
theorem putD_cells (U m d : Nat) (hd : d < 65536) : (digC U).setIfInBounds m (.int .i64 (d : Nat)) = digC (putD U m d) := by
 refine digF_set _ _ _ _ fun i _ => ?_
 have hl := Nat.mod_lt U (Nat.two_pow_pos (16 * m))
 unfold putD
 rw [dg_put _ m d _ i hl hd]
 by_cases h1 : i = m
 ·subst h1; rw [if_neg (by omega), if_pos rfl, if_pos rfl]
 ·have e := putD_is U m
  have e2 : dg U i = dg (U % 2 ^ (16 * m) + 2 ^ (16 * m) * (dg U m + 65536 * (U / 2 ^ (16 * m) / 65536))) i := by rw [← e]
  rw [e2, dg_put _ m _ _ i hl (dg_lt _ _)]
  by_cases h2 : i < m
  ·rw [if_pos h2, if_pos h2, if_neg h1]
  ·rw [if_neg h2, if_neg h2, if_neg h1, if_neg h1, if_neg h1]
theorem putD_sum (U m d x : Nat) (hx : x = dg U m) : putD U m d + 2 ^ (16 * m) * x = U + 2 ^ (16 * m) * d := by
 subst hx
 have e := putD_is U m
 unfold putD
 generalize U / 2 ^ (16 * m) / 65536 = h at *
 rw [Nat.mul_add] at e ⊢
 omega
theorem putD_lt (U m d n : Nat) (hd : d < 65536) (hm : m < n) (hU : U < 2 ^ (16 * n)) : putD U m d < 2 ^ (16 * n) := by
 have hP := Nat.two_pow_pos (16 * m)
 have hl := Nat.mod_lt U hP
 have e : 2 ^ (16 * n) = 2 ^ (16 * m) * (65536 * 2 ^ (16 * (n - m - 1))) := by
  rw [show 65536 = 2 ^ 16 from rfl, ← Nat.pow_add, ← Nat.pow_add]
  congr 1; omega
 rw [e] at hU ⊢
 have h1 : U / 2 ^ (16 * m) < 65536 * 2 ^ (16 * (n - m - 1)) := Nat.div_lt_of_lt_mul hU
 have h2 : U / 2 ^ (16 * m) / 65536 < 2 ^ (16 * (n - m - 1)) := Nat.div_lt_of_lt_mul h1
 unfold putD
 generalize U / 2 ^ (16 * m) / 65536 = h at *
 generalize 2 ^ (16 * (n - m - 1)) = Q at *
 have h3 : 2 ^ (16 * m) * (d + 65536 * h + 1) ≤ 2 ^ (16 * m) * (65536 * Q) := Nat.mul_le_mul_left _ (by omega)
 rw [Nat.mul_add _ _ 1] at h3
 omega
/-- What holds behind k turns of the inner loop. -/
def Sm (A B i k U c : Nat) : Prop := U + 2 ^ (16 * (i + k)) * c = A % 2 ^ (16 * i) * B + dg A i * (B % 2 ^ (16 * k)) * 2 ^ (16 * i) ∧ U < 2 ^ (16 * (i + 16)) ∧ c < 65536
theorem sm_first (A B i U : Nat) (hU : U = A % 2 ^ (16 * i) * B) (hB : B < 2 ^ (16 * 16)) : Sm A B i 0 U 0 := by
 refine ⟨?_, ?_, by decide⟩
 ·rw [Nat.mul_zero, Nat.mul_zero, Nat.pow_zero, Nat.mod_one, Nat.mul_zero, Nat.zero_mul]; exact congrArg (· + 0) hU
 ·rw [hU, Nat.mul_add, Nat.pow_add]
  have hl := Nat.mod_lt A (Nat.two_pow_pos (16 * i))
  rcases Nat.eq_zero_or_pos B with h0 | h0
  ·rw [h0, Nat.mul_zero]; exact Nat.mul_pos (Nat.two_pow_pos _) (Nat.two_pow_pos _)
  ·exact Nat.mul_lt_mul_of_lt_of_lt hl hB
theorem sm_next (A B i k U c t : Nat) (hk : k < 16) (h : Sm A B i k U c) (ht : t = dg U (i + k) + dg A i * dg B k + c) :
  t < 4294967296 ∧ Sm A B i (k + 1) (putD U (i + k) (t % 65536)) (t / 65536) := by
 obtain ⟨h1, h2, h3⟩ := h
 have a1 := dg_lt A i
 have b1 := dg_lt B k
 have u1 := dg_lt U (i + k)
 have m1 : dg A i * dg B k ≤ 65535 * 65535 := Nat.mul_le_mul (by omega) (by omega)
 have hs := putD_sum U (i + k) (t % 65536) _ rfl
 have hlt := putD_lt U (i + k) (t % 65536) (i + 16) (by omega) (by omega) h2
 refine ⟨by omega, ?_, hlt, by omega⟩
 rw [show i + (k + 1) = i + k + 1 by omega, pow_digit, mod_digit B k, Nat.mul_add (dg A i), Nat.add_mul (dg A i * _), ← Nat.add_assoc, ← h1]
 have e1 : dg A i * (2 ^ (16 * k) * dg B k) * 2 ^ (16 * i) = 2 ^ (16 * (i + k)) * (dg A i * dg B k) := by
  rw [Nat.mul_add, Nat.pow_add, Nat.mul_left_comm (dg A i), Nat.mul_comm _ (2 ^ (16 * i)), ← Nat.mul_assoc]
 rw [e1]
 generalize 2 ^ (16 * (i + k)) = Z at *
 generalize putD U (i + k) (t % 65536) = V at *
 generalize dg U (i + k) = u at *
 generalize dg A i * dg B k = p at *
 have e2 : Z * 65536 * (t / 65536) + Z * (t % 65536) = Z * t := by
  rw [Nat.mul_assoc, ← Nat.mul_add, Nat.div_add_mod]
 have e3 : Z * t = Z * u + Z * p + Z * c := by rw [ht, Nat.mul_add, Nat.mul_add]
 omega
theorem sm_last (A B i U c : Nat) (hB : B < 2 ^ (16 * 16)) (h : Sm A B i 16 U c) : (digC U).setIfInBounds (i + 16) (.int .i64 (c : Nat)) = digC (A % 2 ^ (16 * (i + 1)) * B) := by
 obtain ⟨h1, h2, h3⟩ := h
 rw [putD_cells U (i + 16) c h3]
 congr 1
 unfold putD
 rw [Nat.mod_eq_of_lt h2, Nat.div_eq_of_lt h2, Nat.zero_div, Nat.mul_zero, Nat.add_zero c, h1, Nat.mod_eq_of_lt hB, mod_digit, Nat.add_mul, Nat.mul_comm (2 ^ (16 * i)), Nat.mul_assoc (dg A i), Nat.mul_assoc (dg A i), Nat.mul_comm B]
end Go.Proofs.Yteddgjoailpgaaa
/- The document's Mul: the product, digit by digit. -/
namespace Go.Proofs.Yteddgjoailpgaaa
open Go.RowKit
theorem cast_quo (u p c : Nat) : (((u + p + c) / 65536 : Nat) : Int) = ((u : Int) + (p : Int) + c) / 65536 := by omega
theorem cast_rem (u p c : Nat) : (((u + p + c) % 65536 : Nat) : Int) = ((u : Int) + (p : Int) + c) % 65536 := by omega
/-- The rows that Mul holds on to. -/
structure MulH (wr w : World) (g6 g7 g8 A B V : Nat) : Prop where
 r4 : Row wr (w.heap.size + 1 + 1) (natC 0) 24
 r5 : Row wr (w.heap.size + 1 + 1 + 1) (natC 0) 24
 x : Row wr g6 (digC A) 88
 y : Row wr g7 (digC B) 88
 o : Row wr g8 (digC V) 88
 below : Below w.heap.size w wr
theorem MulH.set {wr w : World} {g6 g7 g8 A B V V' : Nat} (h : MulH wr w g6 g7 g8 A B V) (i : Nat) (v : Value) (hv : (digC V).setIfInBounds i v = digC V') (h6 : g6 ≠ g8) (h7 : g7 ≠ g8) (h8 : w.heap.size + 1 + 1 + 1 < g8) :
  MulH (wr.setCell ⟨g8, i, none⟩ v) w g6 g7 g8 A B V' :=
 ⟨h.r4.setCell_far _ _ _ (by omega), h.r5.setCell_far _ _ _ (by omega), h.x.setCell_far _ _ _ h6, h.y.setCell_far _ _ _ h7, hv ▸ h.o.setCell i v, below_setCell h.below (by omega) _ _⟩
theorem MulH.dn {wr w : World} {g6 g7 g8 A B V : Nat} (h : MulH wr w g6 g7 g8 A B V) (n : Nat) : MulH (wr.drewN n) w g6 g7 g8 A B V := ⟨h.r4, h.r5, h.x, h.y, h.o, below_dn h.below n⟩
set_option maxRecDepth 100000 in
set_option maxHeartbeats 2000000 in
theorem rmul_core (A B S T : Nat) (w : World) (hA : A < 2 ^ 256) (hB : B < 2 ^ 256)
  (hN : ∀ w', Calls Try.prog 72 #[.agg (digC (A * B))] w' fun e w2 => e = .returned (.tuple #[.agg (natC S), .agg (natC T)]) ∧ Below w'.heap.size w' w2) :
  Calls Try.prog 47 #[.agg (natC A), .agg (natC B)] w fun e w' => e = .returned (.tuple #[.agg (natC S), .agg (natC T)]) ∧ Below w.heap.size w w' := by
 have s0 : Row ((((w.alloc (.cells (natC A) 24)).alloc (.cells (natC B) 24)).alloc (.cells (natC 0) 24)).alloc (.cells (natC 0) 24)) w.heap.size (natC A) 24 := ((((Row.here (by first | rfl | simp only [alloc_size])).alloc _).alloc _).alloc _)
 have s1 : Row ((((w.alloc (.cells (natC A) 24)).alloc (.cells (natC B) 24)).alloc (.cells (natC 0) 24)).alloc (.cells (natC 0) 24)) (w.heap.size + 1) (natC B) 24 := (((Row.here (by first | rfl | simp only [alloc_size])).alloc _).alloc _)
 have s2 : Row ((((w.alloc (.cells (natC A) 24)).alloc (.cells (natC B) 24)).alloc (.cells (natC 0) 24)).alloc (.cells (natC 0) 24)) (w.heap.size + 1 + 1) (natC 0) 24 := ((Row.here (by first | rfl | simp only [alloc_size])).alloc _)
 have s3 : Row ((((w.alloc (.cells (natC A) 24)).alloc (.cells (natC B) 24)).alloc (.cells (natC 0) 24)).alloc (.cells (natC 0) 24)) (w.heap.size + 1 + 1 + 1) (natC 0) 24 := (Row.here (by first | rfl | simp only [alloc_size]))
 have sb : Below w.heap.size w ((((w.alloc (.cells (natC A) 24)).alloc (.cells (natC B) 24)).alloc (.cells (natC 0) 24)).alloc (.cells (natC 0) 24)) := (by repeat (first | exact Below.refl _ _ | refine Below.alloc ?_ (by simp <;> omega) _))
 have hoA := fun w' => dof_any A 0 w' hA
 have hoB := fun w' => dof_any B 0 w' hB
 rw [Nat.mul_zero, Nat.add_zero] at hoA hoB
 have HH : Hid (A < 2 ^ 256 ∧ B < 2 ^ (16 * 16)) := ⟨hA, hB⟩
 clear hA hB
 go_enter Try.func47, Try.ntmps47
 go_wp2_with (first
  | refine wpList_box_row rfl 24 _ rfl _ rfl ?_
  | refine wpList_alloc_row rfl 24 rfl _ zero_nat ?_)
 simp only [alloc_size]
 generalize ((((w.alloc (.cells (natC A) 24)).alloc (.cells (natC B) 24)).alloc (.cells (natC 0) 24)).alloc (.cells (natC 0) 24)) = W at *
 apply wp_region_mix (by kernel_rfl) [] [_, _, _, _, _, _, _, _, _, _] trivial List.nodup_nil
 ·intro p
  refine mx_load 24 _ rfl _ rfl s0 (by simp <;> omega) 4 _ Try.underlying24 size_nat ?_
  simp only [Act.put, pu]
  refine mx_val (.agg (natC 0)) (exec_build0 24 rfl _ built_nat) ?_
  simp only [Act.put, pu]
  refine mx_call 71 _ _ rfl Try.func71 (by kernel_rfl) #[.agg (natC A), .agg (natC 0)] rfl _ hoA ?_
  simp only [Act.put, pu]
  refine mx_load 24 _ rfl _ rfl s1 (by simp <;> omega) 4 _ Try.underlying24 size_nat ?_
  simp only [Act.put, pu]
  refine mx_val (.agg (natC 0)) (exec_build0 24 rfl _ built_nat) ?_
  simp only [Act.put, pu]
  refine mx_call 71 _ _ rfl Try.func71 (by kernel_rfl) #[.agg (natC B), .agg (natC 0)] rfl _ hoB ?_
  simp only [Act.put, pu]
  refine mx_new 88 rfl _ zero_dig ?_
  simp only [Act.put, pu]
  refine mx_new 88 rfl _ zero_dig ?_
  simp only [Act.put, pu]
  refine mx_put 13 88 _ _ rfl rfl rfl (digC A) rfl (by rw [digC_size]; exact size_dig) (by simp only [digC_size]) (digC_one _) ?_
  simp only [Act.put]
  refine mx_put 15 88 _ _ rfl rfl rfl (digC B) rfl (by rw [digC_size]; exact size_dig) (by simp only [digC_size]) (digC_one _) ?_
  simp only [Act.put]
  refine mx_end ?_
  intro w2 hkw hrw hnew hdis
  have t6 : Row w2 (p 6) (digC A) 88 := hrw 13 (88, digC A) rfl
  have t7 : Row w2 (p 7) (digC B) 88 := hrw 15 (88, digC B) rfl
  have t4 := hkw.row s2 (by simp)
  have t5 := hkw.row s3 (by simp)
  have tb := sb.trans (hkw.below w.heap.size sb.size (by simp))
  have l5 := t5.lt
  have l6 := t6.lt
  have l7 := t7.lt
  clear hkw hrw hnew hdis s0 s1 s2 s3 sb hoA hoB
  generalize p 6 = g6 at *
  generalize p 7 = g7 at *
  go_wp2_with (first
   | refine wpList_build_zero rfl 88 rfl _ built_dig ?_
   | refine wpList_alloc_row rfl 88 rfl _ zero_dig ?_
   | refine wpList_store_new rfl 88 _ _ rfl _ rfl rfl _ _ (by rw [digC_size]; exact size_dig) (by simp only [digC_size]) (digC_one _) ?_)
  have H0 : MulH (w2.alloc (.cells (digC 0) 88)) w g6 g7 w2.heap.size A B 0 := ⟨t4.alloc _, t5.alloc _, t6.alloc _, t7.alloc _, Row.new _ _ _, tb.alloc tb.size _⟩
  clear t4 t5 t6 t7 tb
  generalize w2.alloc (.cells (digC 0) 88) = w3 at *
  generalize w2.heap.size = g8 at *
  have HX : Hid (w.heap.size + 1 + 1 + 1 < g8 ∧ g6 ≠ g8 ∧ g7 ≠ g8) := ⟨l5, by omega, by omega⟩
  clear l5 l6 l7
  go_loopg [9] 16 (fun g s9 wr => ∃ i : Nat, i + g = 16 ∧ s9 = .int .i64 i ∧ MulH wr w g6 g7 g8 A B (A % 2 ^ (16 * i) * B))
  case atStart => exact ⟨0, by omega, rfl, by rw [Nat.mul_zero, Nat.pow_zero, Nat.mod_one, Nat.zero_mul]; exact H0⟩
  case round =>
   obtain ⟨i, hi, rfl, hH⟩ := hrel
   clear H0
   cases gk with
   | zero =>
    obtain rfl : i = 16 := by omega
    rw [show A % 2 ^ (16 * 16) = A from Nat.mod_eq_of_lt HH.out.1] at hH
    clear hi HH
    have ho := hH.o
    have hx : ¬ ((16 : Int) < 16) := by omega
    have h4 := hH.r4
    have h5 := hH.r5
    have hbe := hH.below
    clear hH
    go_wp2_with (first
     | refine wpList_loadR rfl 88 _ rfl _ rfl ho 32 _ Try.underlying88 (by rw [digC_size]; exact size_dig) ?_)
    refine (hN _).mono ?_
    rintro e w5 ⟨rfl, hb5⟩
    have k4 := h4.belowAll hb5
    have k5 := h5.belowAll hb5
    have k5' := k5.setRow_far (w.heap.size + 1 + 1) (natC S) (by omega)
    have kb := below_setRow (below_setRow (below_on hbe (Nat.le_refl _) hb5) (g := w.heap.size + 1 + 1) (by omega) (natC S)) (g := w.heap.size + 1 + 1 + 1) (by omega) (natC T)
    clear ho h4 h5 hbe hb5 hN HX
    go_wp2_with (first
     | refine wpList_storeR rfl 24 _ _ rfl (w.heap.size + 1 + 1) _ (by first | rfl | (unfold Act.eval Act.put; simp; done) | (unfold Act.eval; simp; done)) rfl k4 (by exact size_nat) (by simp only [natC_size]) (natC_one _) ?_
     | refine wpList_storeR rfl 24 _ _ rfl (w.heap.size + 1 + 1 + 1) _ (by first | rfl | (unfold Act.eval Act.put; simp; done) | (unfold Act.eval; simp; done)) rfl k5' (by exact size_nat) (by simp only [natC_size]) (natC_one _) ?_)
    exact ret_rows2 rfl _ rfl ((k4.setRow (natC S)).setRow_far _ _ (by omega)) _ rfl (k5'.setRow (natC T)) 4 _ Try.underlying24 (by exact size_nat) (by exact size_nat) rfl ⟨rfl, kb⟩
   | succ g =>
    have hlt : (i : Int) < 16 := by omega
    have HI : Hid (Sm A B i 0 (A % 2 ^ (16 * i) * B) 0) := sm_first A B i _ rfl HH.out.2
    generalize A % 2 ^ (16 * i) * B = V0 at *
    go_wp2
    go_loopg [10, 11] 16 (fun g s10 s11 wr => ∃ (k U c : Nat), k + g = 16 ∧ s10 = .int .i64 c ∧ s11 = .int .i64 k ∧ Sm A B i k U c ∧ MulH wr w g6 g7 g8 A B U)
    case atStart => exact ⟨0, V0, 0, by omega, rfl, rfl, HI.out, hH⟩
    case round =>
     obtain ⟨k, U, c, hk, rfl, rfl, hS, hU⟩ := hrel
     clear hH HI
     cases gk with
     | zero =>
      obtain rfl : k = 16 := by omega
      have hset := sm_last A B i U c HH.out.2 hS
      have hc8 := cell_dig hU.o (i + 16) (by omega)
      have hf8 := hU.o.frozen (i + 16)
      have hcl : c < 65536 := hS.2.2
      have HS : Aside ((digC U).setIfInBounds (i + 16) (.int .i64 (c : Nat)) = digC (A % 2 ^ (16 * (i + 1)) * B) ∧ MulH wr w g6 g7 g8 A B U) := ⟨hset, hU⟩
      have hx : ¬ ((16 : Int) < 16) := by omega
      clear hset hU hS hk
      go_wp2
      obtain ⟨hset, hU⟩ := HS.out
      obtain ⟨x1, x2, x3⟩ := HX.out
      go_roundg g
      case measure => omega
      case rel =>
       exact ⟨i + 1, by omega, by go_num, hU.set _ _ hset x2 x3 x1⟩
     | succ g' =>
      have hkl : (k : Int) < 16 := by omega
      obtain ⟨ht, hnx⟩ := sm_next A B i k U c _ (by omega) hS rfl
      have hc6 := cell_dig hU.x i (by omega)
      have hc7 := cell_dig hU.y k (by omega)
      have hc8 := cell_dig hU.o (i + k) (by omega)
      have hf8 := hU.o.frozen (i + k)
      have hset := putD_cells U (i + k) ((dg U (i + k) + dg A i * dg B k + c) % 65536) (by omega)
      have HS : Aside ((digC U).setIfInBounds (i + k) (.int .i64 ((dg U (i + k) + dg A i * dg B k + c) % 65536 : Nat)) = digC (putD U (i + k) ((dg U (i + k) + dg A i * dg B k + c) % 65536)) ∧ Sm A B i (k + 1) (putD U (i + k) ((dg U (i + k) + dg A i * dg B k + c) % 65536)) ((dg U (i + k) + dg A i * dg B k + c) / 65536) ∧ MulH wr w g6 g7 g8 A B U) := ⟨hset, hnx, hU⟩
      have ha := dg_lt A i
      have hb := dg_lt B k
      have hu := dg_lt U (i + k)
      have hcl : c < 65536 := hS.2.2
      have hp : dg A i * dg B k ≤ 4294836225 := Nat.mul_le_mul (show dg A i ≤ 65535 by omega) (show dg B k ≤ 65535 by omega)
      clear hset hU hS hnx
      generalize dg A i = a at *
      generalize dg B k = b at *
      generalize dg U (i + k) = u at *
      have e1 := and_digit_i (u + a * b + c) (by omega)
      rw [show ((u + a * b + c : Nat) : Int) = (u : Int) + (a : Int) * b + c by push_cast; rfl] at e1
      go_wp2
      go_quiet (fail)
      go_wp2
      obtain ⟨hset, hnx, hU⟩ := HS.out
      obtain ⟨x1, x2, x3⟩ := HX.out
      go_roundg g'
      case measure => omega
      case rel =>
       refine ⟨k + 1, _, _, by omega, ?_, by go_num, hnx, ?_⟩
       ·rw [cast_quo, Int.natCast_mul]
       ·have := (hU.dn nq).set (i + k) _ hset x2 x3 x1
        rw [cast_rem, Int.natCast_mul] at this
        exact this
 ·kernel_rfl
theorem rmul_any (A B : Nat) (w : World) (hA : A < 2 ^ 256) (hB : B < 2 ^ 256) :
  Calls Try.prog 47 #[.agg (natC A), .agg (natC B)] w fun e w' => e = .returned (.tuple #[.agg (natC (A * B)), .agg (natC (A * B / 2 ^ 256))]) ∧ Below w.heap.size w w' :=
 rmul_core A B (A * B) (A * B / 2 ^ 256) w hA hB fun w' => nats_any (A * B) w'
end Go.Proofs.Yteddgjoailpgaaa
/- Plain mathematics: a division bit by bit. -/
namespace Go.Proofs.Yteddgjoailpgaaa
/-- What is left, and how often, behind the bits from g on. -/
def pR (A M g : Nat) : Nat := A / 2 ^ g % M
def pQ (A M g : Nat) : Nat := 2 ^ g * (A / 2 ^ g / M)
def pB (A g : Nat) : Nat := A / 2 ^ g % 2
theorem pB_le (A g : Nat) : pB A g ≤ 1 := by unfold pB; omega
theorem pR_zero (A M g : Nat) (h : A / 2 ^ g = 0) : pR A M g = 0 := by unfold pR; rw [h, Nat.zero_mod]
theorem pQ_zero (A M g : Nat) (h : A / 2 ^ g = 0) : pQ A M g = 0 := by unfold pQ; rw [h, Nat.zero_div, Nat.mul_zero]
theorem pR_far (A M : Nat) (h : A < 2 ^ 256 * 2 ^ 256) : pR A M 512 = 0 := pR_zero A M 512 (far_any A 256 256 512 rfl h)
theorem pQ_far (A M : Nat) (h : A < 2 ^ 256 * 2 ^ 256) : pQ A M 512 = 0 := pQ_zero A M 512 (far_any A 256 256 512 rfl h)
theorem pR_end (A M : Nat) : pR A M 0 = A % M := by unfold pR; rw [Nat.pow_zero, Nat.div_one]
theorem pQ_end (A M : Nat) : pQ A M 0 = A / M := by unfold pQ; rw [Nat.pow_zero, Nat.div_one, Nat.one_mul]
theorem p_half (A g : Nat) : A / 2 ^ g = 2 * (A / 2 ^ (g + 1)) + pB A g := by
 unfold pB
 rw [Nat.pow_succ, ← Nat.div_div_eq_div_mul]; omega
/-- The bit, as Go asks for it. -/
theorem pB_go (A g : Nat) : bits .and .i64 ((dg A (g / 16) / 2 ^ (g % 16) : Nat) : Int) 1 = (pB A g : Int) := by
 have hd := dg_lt A (g / 16)
 have h2 : dg A (g / 16) / 2 ^ (g % 16) ≤ dg A (g / 16) := Nat.div_le_self _ _
 rw [show (1 : Int) = ((1 : Nat) : Int) from rfl, i64_and_nat _ _ (by omega) (by decide), Nat.and_one_is_mod]
 congr 1
 have h3 : (dg A (g / 16)).testBit (g % 16) = A.testBit g := by
  rw [dg_testBit, show 16 * (g / 16) + g % 16 = g by omega]
  simp [Nat.mod_lt]
 rw [Nat.testBit_eq_decide_div_mod_eq, Nat.testBit_eq_decide_div_mod_eq] at h3
 unfold pB
 have h4 := decide_eq_decide.1 h3
 omega
theorem p_less (A M g r : Nat) (hM : 0 < M) (hr : r = 2 * pR A M (g + 1) + pB A g) (h : r < M) : pR A M g = r ∧ pQ A M g = pQ A M (g + 1) := by
 subst hr
 unfold pR pQ at *
 rw [p_half A g]
 have hd := Nat.div_add_mod (A / 2 ^ (g + 1)) M
 generalize A / 2 ^ (g + 1) = X at *
 generalize pB A g = b at *
 have e : 2 * X + b = M * (2 * (X / M)) + (2 * (X % M) + b) := by rw [← Nat.mul_assoc, Nat.mul_comm M 2, Nat.mul_assoc]; omega
 refine ⟨?_, ?_⟩
 ·rw [e, Nat.mul_add_mod, Nat.mod_eq_of_lt h]
 ·rw [e, Nat.mul_add_div hM, Nat.div_eq_of_lt h, Nat.add_zero, Nat.pow_succ, Nat.mul_assoc]
theorem p_more (A M g r : Nat) (hM : 0 < M) (hr : r = 2 * pR A M (g + 1) + pB A g) (h : M ≤ r) : pR A M g = r - M ∧ pQ A M g = pQ A M (g + 1) + 2 ^ g := by
 subst hr
 have hb := pB_le A g
 unfold pR pQ at *
 rw [p_half A g]
 have hd := Nat.div_add_mod (A / 2 ^ (g + 1)) M
 have hm := Nat.mod_lt (A / 2 ^ (g + 1)) hM
 generalize A / 2 ^ (g + 1) = X at *
 generalize pB A g = b at *
 have e : 2 * X + b = M * (2 * (X / M) + 1) + (2 * (X % M) + b - M) := by rw [Nat.mul_add, ← Nat.mul_assoc, Nat.mul_comm M 2, Nat.mul_assoc]; omega
 have hl : 2 * (X % M) + b - M < M := by omega
 refine ⟨?_, ?_⟩
 ·rw [e, Nat.mul_add_mod, Nat.mod_eq_of_lt hl]
 ·rw [e, Nat.mul_add_div hM, Nat.div_eq_of_lt hl, Nat.add_zero, Nat.mul_add, Nat.mul_one, Nat.pow_succ, Nat.mul_assoc]
theorem p_bound (A M g : Nat) (hM : 0 < M) (h2 : M < 2 ^ 256) : 2 * pR A M (g + 1) + pB A g < 2 ^ 256 * 2 ^ 256 := by
 have hb := pB_le A g
 have hm : pR A M (g + 1) < M := Nat.mod_lt _ hM
 have : (2 : Nat) ^ 256 * 2 ≤ 2 ^ 256 * 2 ^ 256 := Nat.mul_le_mul_left _ (by decide)
 omega
/-- One bit more, in its digit. -/
theorem p_set (X g : Nat) : (digC (2 ^ (g + 1) * X)).setIfInBounds (g / 16) (.int .i64 ((dg (2 ^ (g + 1) * X) (g / 16) ||| 2 ^ (g % 16) : Nat) : Int)) = digC (2 ^ (g + 1) * X + 2 ^ g) := by
 refine digF_set _ _ _ _ fun i _ => ?_
 have hlt : 2 ^ g < 2 ^ (g + 1) := Nat.pow_lt_pow_of_lt (by decide) (by omega)
 have hor := Nat.two_pow_add_eq_or_of_lt hlt X
 apply Nat.eq_of_testBit_eq
 intro j
 rw [hor]
 by_cases h1 : i = g / 16
 ·subst h1
  rw [if_pos rfl, dg_testBit, Nat.testBit_or, Nat.testBit_or, dg_testBit, Nat.testBit_two_pow, Nat.testBit_two_pow]
  by_cases hj : j < 16
  ·simp only [hj, decide_true, Bool.true_and]
   congr 1
   exact decide_eq_decide.2 (by omega)
  ·simp [hj, show ¬ g % 16 = j by omega]
 ·rw [if_neg h1, dg_testBit, Nat.testBit_or, dg_testBit, Nat.testBit_two_pow]
  by_cases hj : j < 16
  ·simp [show ¬ g = 16 * i + j by omega]
  ·simp [hj]
theorem p_or (L g : Nat) (hL : L < 65536) : bits .or .i64 (L : Int) (IntKind.i64.wrap (((1 : Nat) : Int) * 2 ^ (g % 16))) = ((L ||| 2 ^ (g % 16) : Nat) : Int) := by
 rw [show (((1 : Nat) : Int) * 2 ^ (g % 16)) = 2 ^ (g % 16) by simp]
 exact or_bit_i L (g % 16) (by omega) (by omega)
end Go.Proofs.Yteddgjoailpgaaa
