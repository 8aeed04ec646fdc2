/- Plain mathematics of layer 10: tries, draws, draws one behind the other. -/
import Derived.Test.YtlacmkliofnjcaaDoorTakeB
import Derived.Test.YtlacmkliofnjcaaDoorGC
import Derived.Test.YtlacmkliofnjcaaDoorGD
namespace Go.Proofs.YtlacmkliofnjcaaDoor
/-- How many bytes a try takes. -/
def byN (q : Nat) : Nat := (bitLen q + 7) / 8
/-- What is tried. -/
def tryN (q : Nat) (l : List UInt8) : Nat := natB l % 2 ^ bitLen q
/-- A draw: the number, and the bytes that are left; none: they do not do. -/
def drwR (q : Nat) : Nat → List UInt8 → Option (Nat × List UInt8)
 | 0, _ => none
 | g + 1, r => if r.length < byN q then none else if tryN q (r.take (byN q)) < q then some (tryN q (r.take (byN q)), r.drop (byN q)) else drwR q g (r.drop (byN q))
def drw (q : Nat) (s : List UInt8) : Option (Nat × List UInt8) := drwR q (s.length + 1) s
theorem drwR_few {q g : Nat} {r : List UInt8} (h : r.length < byN q) : drwR q (g + 1) r = none := by
 unfold drwR
 rw [if_pos h]
theorem drwR_hit {q g : Nat} {r : List UInt8} (h : ¬ r.length < byN q) (ht : tryN q (r.take (byN q)) < q) : drwR q (g + 1) r = some (tryN q (r.take (byN q)), r.drop (byN q)) := by
 unfold drwR
 rw [if_neg h, if_pos ht]
theorem drwR_miss {q g : Nat} {r : List UInt8} (h : ¬ r.length < byN q) (ht : ¬ tryN q (r.take (byN q)) < q) : drwR q (g + 1) r = drwR q g (r.drop (byN q)) := by
 rw [drwR, if_neg h, if_neg ht]
theorem drwR_is {q : Nat} : ∀ (g : Nat) (r : List UInt8) (x : Nat) (t : List UInt8), drwR q g r = some (x, t) → x < q ∧ t.length + byN q ≤ r.length ∧ t = r.drop (r.length - t.length)
 | 0, _, _, _, h => by cases h
 | g + 1, r, x, t, h => by
  by_cases h1 : r.length < byN q
  ·rw [drwR_few h1] at h; cases h
  by_cases h2 : tryN q (r.take (byN q)) < q
  ·rw [drwR_hit h1 h2] at h
   cases h
   refine ⟨h2, by simp; omega, ?_⟩
   rw [List.length_drop, show r.length - (r.length - byN q) = byN q by omega]
  ·rw [drwR_miss h1 h2] at h
   obtain ⟨a, b, c⟩ := drwR_is g _ x t h
   rw [List.length_drop] at b c
   refine ⟨a, by omega, ?_⟩
   rw [List.drop_drop] at c
   rw [show r.length - t.length = byN q + (r.length - byN q - t.length) by omega]
   exact c
def drN (q : Nat) (s : List UInt8) : Nat := match drw q s with | none => 0 | some (x, _) => x
def drT (q : Nat) (s : List UInt8) : List UInt8 := match drw q s with | none => s | some (_, t) => t
def drB (q : Nat) (s : List UInt8) : Bool := (drw q s).isSome
def drE (q : Nat) (s : List UInt8) : Int := match drw q s with | none => 5 | some _ => 0
def drU (q : Nat) (s : List UInt8) : Nat := s.length - (drT q s).length
theorem dr_none {q : Nat} {s : List UInt8} (h : drw q s = none) : drN q s = 0 ∧ drT q s = s ∧ drB q s = false ∧ drE q s = 5 ∧ drU q s = 0 := by
 unfold drU drN drT drB drE
 rw [h]
 exact ⟨rfl, rfl, rfl, rfl, Nat.sub_self _⟩
theorem dr_some {q x : Nat} {s t : List UInt8} (h : drw q s = some (x, t)) : drN q s = x ∧ drT q s = t ∧ drB q s = true ∧ drE q s = 0 ∧ drU q s = s.length - t.length := by
 unfold drU drN drT drB drE
 rw [h]
 exact ⟨rfl, rfl, rfl, rfl, rfl⟩
theorem drw_is {q x : Nat} {s t : List UInt8} (h : drw q s = some (x, t)) : x < q ∧ t.length + byN q ≤ s.length ∧ t = s.drop (s.length - t.length) := drwR_is _ _ _ _ h
theorem drN_lt {q : Nat} (s : List UInt8) (h : 0 < q) : drN q s < q := by
 cases hd : drw q s with
 | none => rw [(dr_none hd).1]; exact h
 | some y => rw [(dr_some (x := y.1) (t := y.2) hd).1]; exact (drw_is (x := y.1) (t := y.2) hd).1
/-- The bytes that are left behind so many draws. -/
def dst (q : Nat) (s : List UInt8) : Nat → Option (List UInt8)
 | 0 => some s
 | i + 1 => (dst q s i).bind fun r => (drw q r).map (·.2)
/-- The numbers that are drawn, one behind the other. -/
def dwf (q : Nat) (s : List UInt8) (i : Nat) : Nat := match dst q s i with | none => 0 | some r => drN q r
theorem dst_no {q : Nat} {s : List UInt8} {i : Nat} (h : dst q s i = none) : ∀ k, dst q s (i + k) = none
 | 0 => h
 | k + 1 => by
  show (dst q s (i + k)).bind _ = none
  rw [dst_no h k]; rfl
theorem dst_next {q x : Nat} {s r t : List UInt8} {i : Nat} (h : dst q s i = some r) (hd : drw q r = some (x, t)) : dst q s (i + 1) = some t ∧ dwf q s i = x := by
 constructor
 ·show (dst q s i).bind _ = _
  rw [h]
  simp [hd]
 ·unfold dwf
  rw [h]
  exact (dr_some hd).1
theorem dst_stop {q n : Nat} {s r : List UInt8} {i : Nat} (h : dst q s i = some r) (hd : drw q r = none) (hi : i < n) : dst q s n = none := by
 have h1 : dst q s (i + 1) = none := by
  show (dst q s i).bind _ = _
  rw [h]
  simp [hd]
 have := dst_no h1 (n - (i + 1))
 rwa [show i + 1 + (n - (i + 1)) = n by omega] at this
theorem dst_is {q : Nat} {s : List UInt8} : ∀ (i : Nat) (r : List UInt8), dst q s i = some r → r.length ≤ s.length ∧ r = s.drop (s.length - r.length)
 | 0, r, h => by
  cases h
  exact ⟨Nat.le_refl _, by rw [Nat.sub_self, List.drop_zero]⟩
 | i + 1, r, h => by
  cases h0 : dst q s i with
  | none => rw [dst_no h0 1] at h; cases h
  | some u =>
   have h' : (drw q u).map (·.2) = some r := by
    have : (dst q s i).bind (fun r => (drw q r).map (·.2)) = some r := h
    rw [h0] at this
    exact this
   cases hd : drw q u with
   | none => rw [hd] at h'; cases h'
   | some y =>
    rw [hd] at h'
    obtain rfl : y.2 = r := by simpa using h'
    obtain ⟨a, b⟩ := dst_is i u h0
    obtain ⟨_, c, d⟩ := drw_is (x := y.1) (t := y.2) hd
    refine ⟨by omega, ?_⟩
    conv => lhs; rw [d, b]
    rw [List.drop_drop]
    congr 1
    rw [← b]
    omega
theorem dwf_lt {q : Nat} (s : List UInt8) (i : Nat) (h : 0 < q) : dwf q s i < q := by
 unfold dwf
 cases dst q s i with
 | none => exact h
 | some r => exact drN_lt r h
def dwN (q : Nat) (s : List UInt8) (n : Nat) : Nat := match dst q s n with | none => 0 | some _ => n
def dwT (q : Nat) (s : List UInt8) (n : Nat) : List UInt8 := match dst q s n with | none => s | some r => r
def dwB (q : Nat) (s : List UInt8) (n : Nat) : Bool := (dst q s n).isSome
def dwE (q : Nat) (s : List UInt8) (n : Nat) : Int := match dst q s n with | none => 5 | some _ => 0
def dwU (q : Nat) (s : List UInt8) (n : Nat) : Nat := s.length - (dwT q s n).length
theorem dw_none {q n : Nat} {s : List UInt8} (h : dst q s n = none) : dwN q s n = 0 ∧ dwT q s n = s ∧ dwB q s n = false ∧ dwE q s n = 5 ∧ dwU q s n = 0 := by
 unfold dwU dwN dwT dwB dwE
 rw [h]
 exact ⟨rfl, rfl, rfl, rfl, Nat.sub_self _⟩
theorem dw_some {q n : Nat} {s r : List UInt8} (h : dst q s n = some r) : dwN q s n = n ∧ dwT q s n = r ∧ dwB q s n = true ∧ dwE q s n = 0 ∧ dwU q s n = s.length - r.length := by
 unfold dwU dwN dwT dwB dwE
 rw [h]
 exact ⟨rfl, rfl, rfl, rfl, rfl⟩
/-- Without the noughts ahead. -/
def trimL : List UInt8 → List UInt8
 | [] => []
 | b :: l => if b = 0 then trimL l else b :: l
theorem trimL_natB : ∀ l, natB (trimL l) = natB l
 | [] => rfl
 | b :: l => by
  unfold trimL
  split
  ·rename_i h
   subst h
   rw [trimL_natB l]
   rfl
  ·rfl
theorem trimL_len : ∀ l, (trimL l).length ≤ l.length
 | [] => Nat.le_refl _
 | b :: l => by
  unfold trimL
  split
  ·have := trimL_len l
   simp; omega
  ·exact Nat.le_refl _
theorem trimL_head : ∀ l, (trimL l)[0]? ≠ some 0
 | [] => by simp [trimL]
 | b :: l => by
  unfold trimL
  split
  ·exact trimL_head l
  ·rename_i h
   simpa using h
theorem trimL_nil {b : UInt8} {l : List UInt8} (h : b = 0) : trimL (b :: l) = trimL l := by
 rw [trimL, if_pos h]
theorem trimL_stop {b : UInt8} {l : List UInt8} (h : ¬ b = 0) : trimL (b :: l) = b :: l := by
 rw [trimL, if_neg h]
theorem byN_le {q : Nat} (h : bitLen q ≤ 256) : byN q ≤ 32 := by unfold byN; omega
theorem bitLen_pos {q : Nat} (h : 0 < q) : 0 < bitLen q := by
 unfold bitLen
 rw [if_neg (by omega)]
 omega
theorem byN_pos {q : Nat} (h : 0 < q) : 0 < byN q := by
 have := bitLen_pos h
 unfold byN; omega
theorem updown (x b : Nat) (hb : b ≤ 256) : x * 2 ^ (256 - b) % 2 ^ 256 / 2 ^ (256 - b) = x % 2 ^ b := by
 have h : 2 ^ 256 = 2 ^ b * 2 ^ (256 - b) := by rw [← Nat.pow_add]; congr 1; omega
 rw [h, Nat.mul_mod_mul_right, Nat.mul_div_cancel _ (Nat.two_pow_pos _)]
end Go.Proofs.YtlacmkliofnjcaaDoor
