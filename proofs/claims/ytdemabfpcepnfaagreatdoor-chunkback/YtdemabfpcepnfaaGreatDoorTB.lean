/- Plain mathematics of layer 10: tries, draws, draws one behind the other. -/
import Derived.Test.YtdemabfpcepnfaaGreatDoorBT
import Derived.Test.YtdemabfpcepnfaaGreatDoorGC
import Derived.Test.YtdemabfpcepnfaaGreatDoorGD
import Derived.Test.YtdemabfpcepnfaaGreatDoorTA
import Derived.Test.YtdemabfpcepnfaaGreatDoorGW
import Derived.Test.YtdemabfpcepnfaaGreatDoorFA
namespace Go.Proofs.YtdemabfpcepnfaaGreatDoor
/-- How many bytes a try takes. -/
def byN (q : Nat) : Nat := (bitLen q + 7) / 8
/-- What is tried. -/
def tryN (q : Nat) (l : List UInt8) : Nat := natB l % 2 ^ bitLen q
/-- A draw: the number, and the bytes that are left; none: they do not do. -/
def drwR (q : Nat) : Nat → List UInt8 → Option (Nat × List UInt8)
 | 0, _ => none
 | g + 1, r => if r.length < byN q then none else if tryN q (r.take (byN q)) < q then some (tryN q (r.take (byN q)), r.drop (byN q)) else drwR q g (r.drop (byN q))
def drw (q : Nat) (s : List UInt8) : Option (Nat × List UInt8) := drwR q (s.length + 1) s
theorem drwR_few {q g : Nat} {r : List UInt8} (h : r.length < byN q) : drwR q (g + 1) r = none := by
 unfold drwR
 rw [if_pos h]
theorem drwR_hit {q g : Nat} {r : List UInt8} (h : ¬ r.length < byN q) (ht : tryN q (r.take (byN q)) < q) : drwR q (g + 1) r = some (tryN q (r.take (byN q)), r.drop (byN q)) := by
 unfold drwR
 rw [if_neg h, if_pos ht]
theorem drwR_miss {q g : Nat} {r : List UInt8} (h : ¬ r.length < byN q) (ht : ¬ tryN q (r.take (byN q)) < q) : drwR q (g + 1) r = drwR q g (r.drop (byN q)) := by
 rw [drwR, if_neg h, if_neg ht]
theorem drwR_is {q : Nat} : ∀ (g : Nat) (r : List UInt8) (x : Nat) (t : List UInt8), drwR q g r = some (x, t) → x < q ∧ t.length + byN q ≤ r.length ∧ t = r.drop (r.length - t.length)
 | 0, _, _, _, h => by cases h
 | g + 1, r, x, t, h => by
  by_cases h1 : r.length < byN q
  ·rw [drwR_few h1] at h; cases h
  by_cases h2 : tryN q (r.take (byN q)) < q
  ·rw [drwR_hit h1 h2] at h
   cases h
   refine ⟨h2, by simp; omega, ?_⟩
   rw [List.length_drop, show r.length - (r.length - byN q) = byN q by omega]
  ·rw [drwR_miss h1 h2] at h
   obtain ⟨a, b, c⟩ := drwR_is g _ x t h
   rw [List.length_drop] at b c
   refine ⟨a, by omega, ?_⟩
   rw [List.drop_drop] at c
   rw [show r.length - t.length = byN q + (r.length - byN q - t.length) by omega]
   exact c
def drN (q : Nat) (s : List UInt8) : Nat := match drw q s with | none => 0 | some (x, _) => x
def drT (q : Nat) (s : List UInt8) : List UInt8 := match drw q s with | none => s | some (_, t) => t
def drB (q : Nat) (s : List UInt8) : Bool := (drw q s).isSome
def drE (q : Nat) (s : List UInt8) : Int := match drw q s with | none => 5 | some _ => 0
def drU (q : Nat) (s : List UInt8) : Nat := s.length - (drT q s).length
theorem dr_none {q : Nat} {s : List UInt8} (h : drw q s = none) : drN q s = 0 ∧ drT q s = s ∧ drB q s = false ∧ drE q s = 5 ∧ drU q s = 0 := by
 unfold drU drN drT drB drE
 rw [h]
 exact ⟨rfl, rfl, rfl, rfl, Nat.sub_self _⟩
theorem dr_some {q x : Nat} {s t : List UInt8} (h : drw q s = some (x, t)) : drN q s = x ∧ drT q s = t ∧ drB q s = true ∧ drE q s = 0 ∧ drU q s = s.length - t.length := by
 unfold drU drN drT drB drE
 rw [h]
 exact ⟨rfl, rfl, rfl, rfl, rfl⟩
theorem drw_is {q x : Nat} {s t : List UInt8} (h : drw q s = some (x, t)) : x < q ∧ t.length + byN q ≤ s.length ∧ t = s.drop (s.length - t.length) := drwR_is _ _ _ _ h
theorem drN_lt {q : Nat} (s : List UInt8) (h : 0 < q) : drN q s < q := by
 cases hd : drw q s with
 | none => rw [(dr_none hd).1]; exact h
 | some y => rw [(dr_some (x := y.1) (t := y.2) hd).1]; exact (drw_is (x := y.1) (t := y.2) hd).1
/-- The bytes that are left behind so many draws. -/
def dst (q : Nat) (s : List UInt8) : Nat → Option (List UInt8)
 | 0 => some s
 | i + 1 => (dst q s i).bind fun r => (drw q r).map (·.2)
/-- The numbers that are drawn, one behind the other. -/
def dwf (q : Nat) (s : List UInt8) (i : Nat) : Nat := match dst q s i with | none => 0 | some r => drN q r
theorem dst_no {q : Nat} {s : List UInt8} {i : Nat} (h : dst q s i = none) : ∀ k, dst q s (i + k) = none
 | 0 => h
 | k + 1 => by
  show (dst q s (i + k)).bind _ = none
  rw [dst_no h k]; rfl
theorem dst_next {q x : Nat} {s r t : List UInt8} {i : Nat} (h : dst q s i = some r) (hd : drw q r = some (x, t)) : dst q s (i + 1) = some t ∧ dwf q s i = x := by
 constructor
 ·show (dst q s i).bind _ = _
  rw [h]
  simp [hd]
 ·unfold dwf
  rw [h]
  exact (dr_some hd).1
theorem dst_stop {q n : Nat} {s r : List UInt8} {i : Nat} (h : dst q s i = some r) (hd : drw q r = none) (hi : i < n) : dst q s n = none := by
 have h1 : dst q s (i + 1) = none := by
  show (dst q s i).bind _ = _
  rw [h]
  simp [hd]
 have := dst_no h1 (n - (i + 1))
 rwa [show i + 1 + (n - (i + 1)) = n by omega] at this
theorem dst_is {q : Nat} {s : List UInt8} : ∀ (i : Nat) (r : List UInt8), dst q s i = some r → r.length ≤ s.length ∧ r = s.drop (s.length - r.length)
 | 0, r, h => by
  cases h
  exact ⟨Nat.le_refl _, by rw [Nat.sub_self, List.drop_zero]⟩
 | i + 1, r, h => by
  cases h0 : dst q s i with
  | none => rw [dst_no h0 1] at h; cases h
  | some u =>
   have h' : (drw q u).map (·.2) = some r := by
    have : (dst q s i).bind (fun r => (drw q r).map (·.2)) = some r := h
    rw [h0] at this
    exact this
   cases hd : drw q u with
   | none => rw [hd] at h'; cases h'
   | some y =>
    rw [hd] at h'
    obtain rfl : y.2 = r := by simpa using h'
    obtain ⟨a, b⟩ := dst_is i u h0
    obtain ⟨_, c, d⟩ := drw_is (x := y.1) (t := y.2) hd
    refine ⟨by omega, ?_⟩
    conv => lhs; rw [d, b]
    rw [List.drop_drop]
    congr 1
    rw [← b]
    omega
theorem dwf_lt {q : Nat} (s : List UInt8) (i : Nat) (h : 0 < q) : dwf q s i < q := by
 unfold dwf
 cases dst q s i with
 | none => exact h
 | some r => exact drN_lt r h
def dwN (q : Nat) (s : List UInt8) (n : Nat) : Nat := match dst q s n with | none => 0 | some _ => n
def dwT (q : Nat) (s : List UInt8) (n : Nat) : List UInt8 := match dst q s n with | none => s | some r => r
def dwB (q : Nat) (s : List UInt8) (n : Nat) : Bool := (dst q s n).isSome
def dwE (q : Nat) (s : List UInt8) (n : Nat) : Int := match dst q s n with | none => 5 | some _ => 0
def dwU (q : Nat) (s : List UInt8) (n : Nat) : Nat := s.length - (dwT q s n).length
theorem dw_none {q n : Nat} {s : List UInt8} (h : dst q s n = none) : dwN q s n = 0 ∧ dwT q s n = s ∧ dwB q s n = false ∧ dwE q s n = 5 ∧ dwU q s n = 0 := by
 unfold dwU dwN dwT dwB dwE
 rw [h]
 exact ⟨rfl, rfl, rfl, rfl, Nat.sub_self _⟩
theorem dw_some {q n : Nat} {s r : List UInt8} (h : dst q s n = some r) : dwN q s n = n ∧ dwT q s n = r ∧ dwB q s n = true ∧ dwE q s n = 0 ∧ dwU q s n = s.length - r.length := by
 unfold dwU dwN dwT dwB dwE
 rw [h]
 exact ⟨rfl, rfl, rfl, rfl, rfl⟩
/-- Without the noughts ahead. -/
def trimL : List UInt8 → List UInt8
 | [] => []
 | b :: l => if b = 0 then trimL l else b :: l
theorem trimL_natB : ∀ l, natB (trimL l) = natB l
 | [] => rfl
 | b :: l => by
  unfold trimL
  split
  ·rename_i h
   subst h
   rw [trimL_natB l]
   rfl
  ·rfl
theorem trimL_len : ∀ l, (trimL l).length ≤ l.length
 | [] => Nat.le_refl _
 | b :: l => by
  unfold trimL
  split
  ·have := trimL_len l
   simp; omega
  ·exact Nat.le_refl _
theorem trimL_head : ∀ l, (trimL l)[0]? ≠ some 0
 | [] => by simp [trimL]
 | b :: l => by
  unfold trimL
  split
  ·exact trimL_head l
  ·rename_i h
   simpa using h
theorem trimL_nil {b : UInt8} {l : List UInt8} (h : b = 0) : trimL (b :: l) = trimL l := by
 rw [trimL, if_pos h]
theorem trimL_stop {b : UInt8} {l : List UInt8} (h : ¬ b = 0) : trimL (b :: l) = b :: l := by
 rw [trimL, if_neg h]
theorem byN_le {q : Nat} (h : bitLen q ≤ 256) : byN q ≤ 32 := by unfold byN; omega
theorem bitLen_pos {q : Nat} (h : 0 < q) : 0 < bitLen q := by
 unfold bitLen
 rw [if_neg (by omega)]
 omega
theorem byN_pos {q : Nat} (h : 0 < q) : 0 < byN q := by
 have := bitLen_pos h
 unfold byN; omega
theorem updown (x b : Nat) (hb : b ≤ 256) : x * 2 ^ (256 - b) % 2 ^ 256 / 2 ^ (256 - b) = x % 2 ^ b := by
 have h : 2 ^ 256 = 2 ^ b * 2 ^ (256 - b) := by rw [← Nat.pow_add]; congr 1; omega
 rw [h, Nat.mul_mod_mul_right, Nat.mul_div_cancel _ (Nat.two_pow_pos _)]
end Go.Proofs.YtdemabfpcepnfaaGreatDoor
/- tape's functions; strings.TrimLeft where it leaves noughts out. -/
namespace Go.Proofs.YtdemabfpcepnfaaGreatDoor
open Go.RowKit
set_option linter.unusedVariables false
theorem sbmk (w : World) : Below w.heap.size w w := Below.refl _ _
/-- The cells of a tape. -/
def tpC (m : Bool) (s : List UInt8) : Array Value := #[.bool m, .string ⟨s.toArray⟩]
theorem tp_one (m : Bool) (s : List UInt8) : (tpC m s).all (·.oneCell') = true := by simp [tpC, Value.oneCell']
theorem tp_put (m : Bool) (s u : List UInt8) : (tpC m s).setIfInBounds 1 (.string ⟨u.toArray⟩) = tpC m u := rfl
theorem size1tstring : (Tryz.prog.info? 9).map (·.size) = some 1 := by kernel_rfl
theorem tp_lt8 {P : Program} {o : Oper} {ρ : Operand → Value} (t : TypeId) (x y : Operand) (u : TypeId) (ho : o.op = .binOp .lss t x y u) (n m : Int) (hx : ρ x = .int .u8 n) (hy : ρ y = .int .u8 m) (b : Bool) (hb : decide (n < m) = b) (w : World) :
  (execOp ρ o).run P w = .ok (.value (.bool b)) w := by
 subst hb
 unfold execOp
 simp only [ho, hx, hy]
 simp [go_sem]
set_option maxRecDepth 100000 in
set_option maxHeartbeats 2000000 in
theorem trimByte_any (l : List UInt8) (w : World) :
  Calls Tryz.prog 79 #[.string ⟨(l).toArray⟩, .int .u8 0] w fun e w' => e = .returned (.string ⟨(trimL l).toArray⟩) ∧ Below w.heap.size w w' := by
 go_enter Tryz.func79, Tryz.ntmps79
 have sb := sbmk w
 (repeat ((fail_if_success with_reducible refine rg ?_); go_step))
 refine wp_region_pw ?_
 refine pw_move (by rfl) (.inr rfl) rfl ?_
 simp only [Act.put, pu]
 refine pw_nil ?_
 go_wp2_with fail
 go_loopg [0] l.length (fun g s0 wr => ∃ r : List UInt8, r.length = g ∧ s0 = .string ⟨(r).toArray⟩ ∧ trimL r = trimL l ∧ Below w.heap.size w wr)
 case atStart => exact ⟨l, rfl, rfl, rfl, sb⟩
 case round =>
  clear sb
  obtain ⟨r, hr, rfl, ht, sb⟩ := hrel
  cases r with
  | nil =>
   have HT : Hid (trimL [] = trimL l) := ht
   clear ht hr
   (repeat ((fail_if_success with_reducible refine rg ?_); go_step))
   refine wp_region_pw ?_
   refine pw_mv (by rfl) rfl rfl ?_
   simp only [Act.put, pu]
   refine pw_value (by rfl) (.int .i64 (0 : Nat)) (y_lenS _ _ rfl [] rfl Tryz.underlying9) ?_
   simp only [Act.put, pu]
   refine pw_value (by rfl) (.bool false) (exec_gt_i _ _ _ _ rfl (0 : Nat) 0 rfl rfl false rfl) ?_
   simp only [Act.put, pu]
   refine pw_mv (by rfl) rfl rfl ?_
   simp only [Act.put, pu]
   refine pw_skip (by rfl) ?_
   simp only [Act.put, pu]
   refine pw_skip (by rfl) ?_
   simp only [Act.put, pu]
   refine pw_skip (by rfl) ?_
   simp only [Act.put, pu]
   refine pw_skip (by rfl) ?_
   simp only [Act.put, pu]
   refine pw_pick (by rfl) false (v := .bool false) rfl rfl rfl ?_
   simp only [Act.put, pu]
   refine pw_nil ?_
   (repeat ((fail_if_success with_reducible refine rg ?_); go_step))
   refine wp_region_pw ?_
   refine pw_mv (by rfl) rfl rfl ?_
   simp only [Act.put, pu]
   refine pw_as (by rfl) rfl rfl ?_
   simp only [Act.put, pu]
   refine pw_nil ?_
   go_wp2
   go_ret
   exact ⟨by rw [← HT.out]; rfl, sb⟩
  | cons b r =>
   have hlen : (0 : Int) < (((b :: r).length : Nat) : Int) := by rw [List.length_cons]; omega
   by_cases hb : b = 0
   ·rw [trimL_nil hb] at ht
    have HT : Hid (trimL r = trimL l) := ht
    clear ht
    have hz : decide ((yb (b :: r) 0 : Int) = 0) = true := by subst hb; rfl
    (repeat ((fail_if_success with_reducible refine rg ?_); go_step))
    refine wp_region_pw ?_
    refine pw_mv (by rfl) rfl rfl ?_
    simp only [Act.put, pu]
    refine pw_value (by rfl) (.int .i64 (b :: r).length) (y_lenS _ _ rfl (b :: r) rfl Tryz.underlying9) ?_
    simp only [Act.put, pu]
    refine pw_value (by rfl) (.bool true) (exec_gt_i _ _ _ _ rfl (b :: r).length 0 rfl rfl true (decide_eq_true hlen)) ?_
    simp only [Act.put, pu]
    refine pw_mv (by rfl) rfl rfl ?_
    simp only [Act.put, pu]
    refine pw_mv (by rfl) rfl rfl ?_
    simp only [Act.put, pu]
    refine pw_value (by rfl) (.int .u8 (yb (b :: r) 0 : Nat)) (y_index _ _ _ rfl Tryz.underlying9 (b :: r) rfl .i64 0 rfl (by simp)) ?_
    simp only [Act.put, pu]
    refine pw_mv (by rfl) rfl rfl ?_
    simp only [Act.put, pu]
    refine pw_value (by rfl) (.bool true) (exec_eql_k .u8 _ _ _ _ rfl (yb (b :: r) 0 : Nat) 0 rfl rfl true hz) ?_
    simp only [Act.put, pu]
    refine pw_pick (by rfl) true (v := .bool true) rfl rfl rfl ?_
    simp only [Act.put, pu]
    refine pw_nil ?_
    clear hz hlen
    (repeat ((fail_if_success with_reducible refine rg ?_); go_step))
    refine wp_region_pw ?_
    refine pw_mv (by rfl) rfl rfl ?_
    simp only [Act.put, pu]
    refine pw_value (by rfl) (.string ⟨(r).toArray⟩) (fun w => y_from _ _ _ Tryz.underlying9 rfl (b :: r) 1 rfl rfl (by simp) w) ?_
    simp only [Act.put, pu]
    refine pw_as (by rfl) rfl rfl ?_
    simp only [Act.put, List.setIfInBounds_toArray, List.set_cons_zero]
    refine pw_nil ?_
    go_wp2
    go_roundg r.length
    case measure => simp at hr; omega
    case rel => exact ⟨r, rfl, rfl, HT.out, sb⟩
   ·rw [trimL_stop hb] at ht
    have HT : Hid (b :: r = trimL l) := ht
    have hz : decide ((yb (b :: r) 0 : Int) = 0) = false := by
     refine decide_eq_false fun e => hb ?_
     have : b.toNat = 0 := by
      unfold yb at e
      simpa using e
     exact UInt8.toNat_inj.1 this
    clear ht
    (repeat ((fail_if_success with_reducible refine rg ?_); go_step))
    refine wp_region_pw ?_
    refine pw_mv (by rfl) rfl rfl ?_
    simp only [Act.put, pu]
    refine pw_value (by rfl) (.int .i64 (b :: r).length) (y_lenS _ _ rfl (b :: r) rfl Tryz.underlying9) ?_
    simp only [Act.put, pu]
    refine pw_value (by rfl) (.bool true) (exec_gt_i _ _ _ _ rfl (b :: r).length 0 rfl rfl true (decide_eq_true hlen)) ?_
    simp only [Act.put, pu]
    refine pw_mv (by rfl) rfl rfl ?_
    simp only [Act.put, pu]
    refine pw_mv (by rfl) rfl rfl ?_
    simp only [Act.put, pu]
    refine pw_value (by rfl) (.int .u8 (yb (b :: r) 0 : Nat)) (y_index _ _ _ rfl Tryz.underlying9 (b :: r) rfl .i64 0 rfl (by simp)) ?_
    simp only [Act.put, pu]
    refine pw_mv (by rfl) rfl rfl ?_
    simp only [Act.put, pu]
    refine pw_value (by rfl) (.bool false) (exec_eql_k .u8 _ _ _ _ rfl (yb (b :: r) 0 : Nat) 0 rfl rfl false hz) ?_
    simp only [Act.put, pu]
    refine pw_pick (by rfl) true (v := .bool false) rfl rfl rfl ?_
    simp only [Act.put, pu]
    refine pw_nil ?_
    clear hz hlen
    (repeat ((fail_if_success with_reducible refine rg ?_); go_step))
    refine wp_region_pw ?_
    refine pw_mv (by rfl) rfl rfl ?_
    simp only [Act.put, pu]
    refine pw_as (by rfl) rfl rfl ?_
    simp only [Act.put, pu]
    refine pw_nil ?_
    go_wp2
    go_ret
    exact ⟨by rw [← HT.out]; rfl, sb⟩
set_option maxRecDepth 100000 in
set_option maxHeartbeats 2000000 in
theorem trimLeft_any (l : List UInt8) (w : World) :
  Calls Tryz.prog 55 #[.string ⟨(l).toArray⟩, .string { data := #[0] }] w fun e w' => e = .returned (.string ⟨(trimL l).toArray⟩) ∧ Below w.heap.size w w' := by
 go_enter Tryz.func55, Tryz.ntmps55
 have sb := sbmk w
 (repeat ((fail_if_success with_reducible refine rg ?_); go_step))
 refine wp_region_pw ?_
 refine pw_move (by rfl) (.inr rfl) rfl ?_
 simp only [Act.put, pu]
 refine pw_nil ?_
 cases l with
 | nil =>
  (repeat ((fail_if_success with_reducible refine rg ?_); go_step))
  refine wp_region_pw ?_
  refine pw_mv (by rfl) rfl rfl ?_
  simp only [Act.put, pu]
  refine pw_value (by rfl) (.bool true) (y_eqS _ _ _ _ rfl [] [] rfl rfl true rfl) ?_
  simp only [Act.put, pu]
  refine pw_mv (by rfl) rfl rfl ?_
  simp only [Act.put, pu]
  refine pw_skip (by rfl) ?_
  simp only [Act.put, pu]
  refine pw_skip (by rfl) ?_
  simp only [Act.put, pu]
  refine pw_pick (by rfl) true (v := .bool true) rfl rfl rfl ?_
  simp only [Act.put, pu]
  refine pw_nil ?_
  (repeat ((fail_if_success with_reducible refine rg ?_); go_step))
  refine wp_region_pw ?_
  refine pw_mv (by rfl) rfl rfl ?_
  simp only [Act.put, pu]
  refine pw_as (by rfl) rfl rfl ?_
  simp only [Act.put, pu]
  refine pw_nil ?_
  go_wp2
  go_ret
  exact ⟨rfl, sb⟩
 | cons b r =>
  (repeat ((fail_if_success with_reducible refine rg ?_); go_step))
  refine wp_region_pw ?_
  refine pw_mv (by rfl) rfl rfl ?_
  simp only [Act.put, pu]
  refine pw_value (by rfl) (.bool false) (y_eqS _ _ _ _ rfl (b :: r) [] rfl rfl false (decide_eq_false (by simp))) ?_
  simp only [Act.put, pu]
  refine pw_mv (by rfl) rfl rfl ?_
  simp only [Act.put, pu]
  refine pw_mv (by rfl) rfl rfl ?_
  simp only [Act.put, pu]
  refine pw_value (by rfl) (.bool false) (y_eqS _ _ _ _ rfl [0] [] rfl rfl false (decide_eq_false (by simp))) ?_
  simp only [Act.put, pu]
  refine pw_pick (by rfl) false (v := .bool false) rfl rfl rfl ?_
  simp only [Act.put, pu]
  refine pw_nil ?_
  (repeat ((fail_if_success with_reducible refine rg ?_); go_step))
  refine wp_region_pw ?_
  refine pw_mv (by rfl) rfl rfl ?_
  simp only [Act.put, pu]
  refine pw_value (by rfl) (.int .i64 (1 : Nat)) (y_lenS _ _ rfl [0] rfl Tryz.underlying9) ?_
  simp only [Act.put, pu]
  refine pw_value (by rfl) (.bool true) (exec_eql_k .i64 _ _ _ _ rfl (1 : Nat) 1 rfl rfl true rfl) ?_
  simp only [Act.put, pu]
  refine pw_mv (by rfl) rfl rfl ?_
  simp only [Act.put, pu]
  refine pw_mv (by rfl) rfl rfl ?_
  simp only [Act.put, pu]
  refine pw_value (by rfl) (.int .u8 (yb [0] 0 : Nat)) (y_index _ _ _ rfl Tryz.underlying9 [0] rfl .i64 0 rfl (by simp)) ?_
  simp only [Act.put, pu]
  refine pw_value (by rfl) (.bool true) (tp_lt8 _ _ _ _ rfl (yb [0] 0 : Nat) 128 rfl rfl true rfl) ?_
  simp only [Act.put, pu]
  refine pw_pick (by rfl) true (v := .bool true) rfl rfl rfl ?_
  simp only [Act.put, pu]
  refine pw_nil ?_
  (repeat ((fail_if_success with_reducible refine rg ?_); go_step))
  refine wp_region_pw ?_
  refine pw_mv (by rfl) rfl rfl ?_
  simp only [Act.put, pu]
  refine pw_mv (by rfl) rfl rfl ?_
  simp only [Act.put, pu]
  refine pw_value (by rfl) (.int .u8 (yb [0] 0 : Nat)) (y_index _ _ _ rfl Tryz.underlying9 [0] rfl .i64 0 rfl (by simp)) ?_
  simp only [Act.put, pu]
  refine pw_callB (by rfl) 79 _ _ rfl Tryz.func79 (by kernel_rfl) #[.string ⟨(b :: r).toArray⟩, .int .u8 (0 : Nat)] rfl _ (trimByte_any (b :: r) _) ?_
  intro z4003 k
  simp only [Act.put, pu]
  replace sb := sb.trans (k.below w.heap.size sb.size (by simp <;> omega))
  clear k
  refine pw_as (by rfl) rfl rfl ?_
  simp only [Act.put, pu]
  refine pw_nil ?_
  go_wp2
  go_ret
  exact ⟨rfl, sb⟩
end Go.Proofs.YtdemabfpcepnfaaGreatDoor
/- tape's isGroup, nextTry, Draw, Draws. -/
namespace Go.Proofs.YtdemabfpcepnfaaGreatDoor
open Go.RowKit
set_option linter.unusedVariables false
theorem take_trim (l : List UInt8) (h : l.length ≤ 32) : takeN ⟨(trimL l).toArray⟩ = natB l ∧ takeE ⟨(trimL l).toArray⟩ = 0 := by
 have hb : badB ⟨(trimL l).toArray⟩ = false := by
  unfold badB
  have h1 := trimL_len l
  have h2 := trimL_head l
  rw [ysize]
  rw [decide_eq_false (by omega), Bool.false_or, Bool.and_eq_false_iff]
  right
  simpa using h2
 unfold takeN takeE
 rw [if_neg (by rw [hb]; decide), if_neg (by rw [hb]; decide)]
 exact ⟨trimL_natB l, rfl⟩
theorem tpw1 (b : Nat) (h : b ≤ 256) : IntKind.i64.wrap (((b + 8 : Nat) : Int) - 1) = ((b + 7 : Nat) : Int) := by rw [IntKind.wrap_i64]; omega
theorem tpw2 (b : Nat) (h : b ≤ 256) : IntKind.i64.wrap (((b + 7 : Nat) : Int).tdiv 8) = (((b + 7) / 8 : Nat) : Int) := by
 rw [show (8 : Int) = ((8 : Nat) : Int) from rfl, ← Int.ofNat_tdiv, IntKind.wrap_i64]
 omega
theorem tpw3 (b : Nat) (h : b ≤ 256) : IntKind.i64.wrap ((256 : Int) - (b : Int)) = ((256 - b : Nat) : Int) := by rw [IntKind.wrap_i64]; omega
end Go.Proofs.YtdemabfpcepnfaaGreatDoor
