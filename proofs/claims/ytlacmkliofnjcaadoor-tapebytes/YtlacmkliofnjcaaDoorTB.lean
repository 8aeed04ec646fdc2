/- Plain mathematics of layer 10: tries, draws, draws one behind the other. -/
import Derived.Test.YtlacmkliofnjcaaDoorTakeB
import Derived.Test.YtlacmkliofnjcaaDoorGC
import Derived.Test.YtlacmkliofnjcaaDoorGD
import Derived.Test.YtlacmkliofnjcaaDoorTA
import Derived.Test.YtlacmkliofnjcaaDoorNTake
import Derived.Test.YtlacmkliofnjcaaDoorGW
import Derived.Test.YtlacmkliofnjcaaDoorFA
namespace Go.Proofs.YtlacmkliofnjcaaDoor
/-- How many bytes a try takes. -/
def byN (q : Nat) : Nat := (bitLen q + 7) / 8
/-- What is tried. -/
def tryN (q : Nat) (l : List UInt8) : Nat := natB l % 2 ^ bitLen q
/-- A draw: the number, and the bytes that are left; none: they do not do. -/
def drwR (q : Nat) : Nat → List UInt8 → Option (Nat × List UInt8)
 | 0, _ => none
 | g + 1, r => if r.length < byN q then none else if tryN q (r.take (byN q)) < q then some (tryN q (r.take (byN q)), r.drop (byN q)) else drwR q g (r.drop (byN q))
def drw (q : Nat) (s : List UInt8) : Option (Nat × List UInt8) := drwR q (s.length + 1) s
theorem drwR_few {q g : Nat} {r : List UInt8} (h : r.length < byN q) : drwR q (g + 1) r = none := by
 unfold drwR
 rw [if_pos h]
theorem drwR_hit {q g : Nat} {r : List UInt8} (h : ¬ r.length < byN q) (ht : tryN q (r.take (byN q)) < q) : drwR q (g + 1) r = some (tryN q (r.take (byN q)), r.drop (byN q)) := by
 unfold drwR
 rw [if_neg h, if_pos ht]
theorem drwR_miss {q g : Nat} {r : List UInt8} (h : ¬ r.length < byN q) (ht : ¬ tryN q (r.take (byN q)) < q) : drwR q (g + 1) r = drwR q g (r.drop (byN q)) := by
 rw [drwR, if_neg h, if_neg ht]
theorem drwR_is {q : Nat} : ∀ (g : Nat) (r : List UInt8) (x : Nat) (t : List UInt8), drwR q g r = some (x, t) → x < q ∧ t.length + byN q ≤ r.length ∧ t = r.drop (r.length - t.length)
 | 0, _, _, _, h => by cases h
 | g + 1, r, x, t, h => by
  by_cases h1 : r.length < byN q
  ·rw [drwR_few h1] at h; cases h
  by_cases h2 : tryN q (r.take (byN q)) < q
  ·rw [drwR_hit h1 h2] at h
   cases h
   refine ⟨h2, by simp; omega, ?_⟩
   rw [List.length_drop, show r.length - (r.length - byN q) = byN q by omega]
  ·rw [drwR_miss h1 h2] at h
   obtain ⟨a, b, c⟩ := drwR_is g _ x t h
   rw [List.length_drop] at b c
   refine ⟨a, by omega, ?_⟩
   rw [List.drop_drop] at c
   rw [show r.length - t.length = byN q + (r.length - byN q - t.length) by omega]
   exact c
def drN (q : Nat) (s : List UInt8) : Nat := match drw q s with | none => 0 | some (x, _) => x
def drT (q : Nat) (s : List UInt8) : List UInt8 := match drw q s with | none => s | some (_, t) => t
def drB (q : Nat) (s : List UInt8) : Bool := (drw q s).isSome
def drE (q : Nat) (s : List UInt8) : Int := match drw q s with | none => 5 | some _ => 0
def drU (q : Nat) (s : List UInt8) : Nat := s.length - (drT q s).length
theorem dr_none {q : Nat} {s : List UInt8} (h : drw q s = none) : drN q s = 0 ∧ drT q s = s ∧ drB q s = false ∧ drE q s = 5 ∧ drU q s = 0 := by
 unfold drU drN drT drB drE
 rw [h]
 exact ⟨rfl, rfl, rfl, rfl, Nat.sub_self _⟩
theorem dr_some {q x : Nat} {s t : List UInt8} (h : drw q s = some (x, t)) : drN q s = x ∧ drT q s = t ∧ drB q s = true ∧ drE q s = 0 ∧ drU q s = s.length - t.length := by
 unfold drU drN drT drB drE
 rw [h]
 exact ⟨rfl, rfl, rfl, rfl, rfl⟩
theorem drw_is {q x : Nat} {s t : List UInt8} (h : drw q s = some (x, t)) : x < q ∧ t.length + byN q ≤ s.length ∧ t = s.drop (s.length - t.length) := drwR_is _ _ _ _ h
theorem drN_lt {q : Nat} (s : List UInt8) (h : 0 < q) : drN q s < q := by
 cases hd : drw q s with
 | none => rw [(dr_none hd).1]; exact h
 | some y => rw [(dr_some (x := y.1) (t := y.2) hd).1]; exact (drw_is (x := y.1) (t := y.2) hd).1
/-- The bytes that are left behind so many draws. -/
def dst (q : Nat) (s : List UInt8) : Nat → Option (List UInt8)
 | 0 => some s
 | i + 1 => (dst q s i).bind fun r => (drw q r).map (·.2)
/-- The numbers that are drawn, one behind the other. -/
def dwf (q : Nat) (s : List UInt8) (i : Nat) : Nat := match dst q s i with | none => 0 | some r => drN q r
theorem dst_no {q : Nat} {s : List UInt8} {i : Nat} (h : dst q s i = none) : ∀ k, dst q s (i + k) = none
 | 0 => h
 | k + 1 => by
  show (dst q s (i + k)).bind _ = none
  rw [dst_no h k]; rfl
theorem dst_next {q x : Nat} {s r t : List UInt8} {i : Nat} (h : dst q s i = some r) (hd : drw q r = some (x, t)) : dst q s (i + 1) = some t ∧ dwf q s i = x := by
 constructor
 ·show (dst q s i).bind _ = _
  rw [h]
  simp [hd]
 ·unfold dwf
  rw [h]
  exact (dr_some hd).1
theorem dst_stop {q n : Nat} {s r : List UInt8} {i : Nat} (h : dst q s i = some r) (hd : drw q r = none) (hi : i < n) : dst q s n = none := by
 have h1 : dst q s (i + 1) = none := by
  show (dst q s i).bind _ = _
  rw [h]
  simp [hd]
 have := dst_no h1 (n - (i + 1))
 rwa [show i + 1 + (n - (i + 1)) = n by omega] at this
theorem dst_is {q : Nat} {s : List UInt8} : ∀ (i : Nat) (r : List UInt8), dst q s i = some r → r.length ≤ s.length ∧ r = s.drop (s.length - r.length)
 | 0, r, h => by
  cases h
  exact ⟨Nat.le_refl _, by rw [Nat.sub_self, List.drop_zero]⟩
 | i + 1, r, h => by
  cases h0 : dst q s i with
  | none => rw [dst_no h0 1] at h; cases h
  | some u =>
   have h' : (drw q u).map (·.2) = some r := by
    have : (dst q s i).bind (fun r => (drw q r).map (·.2)) = some r := h
    rw [h0] at this
    exact this
   cases hd : drw q u with
   | none => rw [hd] at h'; cases h'
   | some y =>
    rw [hd] at h'
    obtain rfl : y.2 = r := by simpa using h'
    obtain ⟨a, b⟩ := dst_is i u h0
    obtain ⟨_, c, d⟩ := drw_is (x := y.1) (t := y.2) hd
    refine ⟨by omega, ?_⟩
    conv => lhs; rw [d, b]
    rw [List.drop_drop]
    congr 1
    rw [← b]
    omega
theorem dwf_lt {q : Nat} (s : List UInt8) (i : Nat) (h : 0 < q) : dwf q s i < q := by
 unfold dwf
 cases dst q s i with
 | none => exact h
 | some r => exact drN_lt r h
def dwN (q : Nat) (s : List UInt8) (n : Nat) : Nat := match dst q s n with | none => 0 | some _ => n
def dwT (q : Nat) (s : List UInt8) (n : Nat) : List UInt8 := match dst q s n with | none => s | some r => r
def dwB (q : Nat) (s : List UInt8) (n : Nat) : Bool := (dst q s n).isSome
def dwE (q : Nat) (s : List UInt8) (n : Nat) : Int := match dst q s n with | none => 5 | some _ => 0
def dwU (q : Nat) (s : List UInt8) (n : Nat) : Nat := s.length - (dwT q s n).length
theorem dw_none {q n : Nat} {s : List UInt8} (h : dst q s n = none) : dwN q s n = 0 ∧ dwT q s n = s ∧ dwB q s n = false ∧ dwE q s n = 5 ∧ dwU q s n = 0 := by
 unfold dwU dwN dwT dwB dwE
 rw [h]
 exact ⟨rfl, rfl, rfl, rfl, Nat.sub_self _⟩
theorem dw_some {q n : Nat} {s r : List UInt8} (h : dst q s n = some r) : dwN q s n = n ∧ dwT q s n = r ∧ dwB q s n = true ∧ dwE q s n = 0 ∧ dwU q s n = s.length - r.length := by
 unfold dwU dwN dwT dwB dwE
 rw [h]
 exact ⟨rfl, rfl, rfl, rfl, rfl⟩
/-- Without the noughts ahead. -/
def trimL : List UInt8 → List UInt8
 | [] => []
 | b :: l => if b = 0 then trimL l else b :: l
theorem trimL_natB : ∀ l, natB (trimL l) = natB l
 | [] => rfl
 | b :: l => by
  unfold trimL
  split
  ·rename_i h
   subst h
   rw [trimL_natB l]
   rfl
  ·rfl
theorem trimL_len : ∀ l, (trimL l).length ≤ l.length
 | [] => Nat.le_refl _
 | b :: l => by
  unfold trimL
  split
  ·have := trimL_len l
   simp; omega
  ·exact Nat.le_refl _
theorem trimL_head : ∀ l, (trimL l)[0]? ≠ some 0
 | [] => by simp [trimL]
 | b :: l => by
  unfold trimL
  split
  ·exact trimL_head l
  ·rename_i h
   simpa using h
theorem trimL_nil {b : UInt8} {l : List UInt8} (h : b = 0) : trimL (b :: l) = trimL l := by
 rw [trimL, if_pos h]
theorem trimL_stop {b : UInt8} {l : List UInt8} (h : ¬ b = 0) : trimL (b :: l) = b :: l := by
 rw [trimL, if_neg h]
theorem byN_le {q : Nat} (h : bitLen q ≤ 256) : byN q ≤ 32 := by unfold byN; omega
theorem bitLen_pos {q : Nat} (h : 0 < q) : 0 < bitLen q := by
 unfold bitLen
 rw [if_neg (by omega)]
 omega
theorem byN_pos {q : Nat} (h : 0 < q) : 0 < byN q := by
 have := bitLen_pos h
 unfold byN; omega
theorem updown (x b : Nat) (hb : b ≤ 256) : x * 2 ^ (256 - b) % 2 ^ 256 / 2 ^ (256 - b) = x % 2 ^ b := by
 have h : 2 ^ 256 = 2 ^ b * 2 ^ (256 - b) := by rw [← Nat.pow_add]; congr 1; omega
 rw [h, Nat.mul_mod_mul_right, Nat.mul_div_cancel _ (Nat.two_pow_pos _)]
end Go.Proofs.YtlacmkliofnjcaaDoor
/- tape's functions; strings.TrimLeft where it leaves noughts out. -/
namespace Go.Proofs.YtlacmkliofnjcaaDoor
open Go.RowKit
set_option linter.unusedVariables false
theorem sbmk (w : World) : Below w.heap.size w w := Below.refl _ _
/-- The cells of a tape. -/
def tpC (m : Bool) (s : List UInt8) : Array Value := #[.bool m, .string ⟨s.toArray⟩]
theorem tp_one (m : Bool) (s : List UInt8) : (tpC m s).all (·.oneCell') = true := by simp [tpC, Value.oneCell']
theorem info_tp : (Tryd.prog.info? 62).map (fun i => (i.zero, i.size)) = some (some (.agg (tpC false [])), 2) := by kernel_rfl
theorem zero_tp (w : World) : (zeroValue 62).run Tryd.prog w = .ok (.agg (tpC false [])) w := (zero_of_info info_tp).1 w
theorem size_tp : (Tryd.prog.info? 62).map (·.size) = some 2 := (zero_of_info info_tp).2
theorem built_tp0 : Tryd.prog.built 62 [] = some (tpC false []) := by kernel_rfl
theorem built_tp (s : List UInt8) : Tryd.prog.built 62 [(0, .bool true), (1, .string ⟨s.toArray⟩)] = some (tpC true s) := by
 unfold tpC
 generalize (⟨s.toArray⟩ : ByteArray) = b
 kernel_rfl
theorem tp_put (m : Bool) (s u : List UInt8) : (tpC m s).setIfInBounds 1 (.string ⟨u.toArray⟩) = tpC m u := rfl
theorem size1tstring : (Tryd.prog.info? 9).map (·.size) = some 1 := by kernel_rfl
theorem ptr_tp : Tryd.prog.underlying 24 = some (.pointer (Tryd.prog.pointee 24)) := by kernel_rfl
theorem tp_lt8 {P : Program} {o : Oper} {ρ : Operand → Value} (t : TypeId) (x y : Operand) (u : TypeId) (ho : o.op = .binOp .lss t x y u) (n m : Int) (hx : ρ x = .int .u8 n) (hy : ρ y = .int .u8 m) (b : Bool) (hb : decide (n < m) = b) (w : World) :
  (execOp ρ o).run P w = .ok (.value (.bool b)) w := by
 subst hb
 unfold execOp
 simp only [ho, hx, hy]
 simp [go_sem]
/-- A tape that New did not give: nil, or one without the mark. -/
def TpAt (w : World) (v : Option Addr) (m : Bool) (s : List UInt8) : Prop := (v = none ∧ m = false) ∨ ∃ g, v = some ⟨g, 0, none⟩ ∧ Row w g (tpC m s) 62
theorem TpAt.below {w w' : World} {v : Option Addr} {m : Bool} {s : List UInt8} (h : TpAt w v m s) (hb : Below w.heap.size w w') : TpAt w' v m s := h.imp id fun ⟨g, h1, h2⟩ => ⟨g, h1, h2.belowAll hb⟩
set_option maxRecDepth 100000 in
set_option maxHeartbeats 2000000 in
theorem isMade_nil (w : World) :
  Calls Tryd.prog 24 #[.pointer none] w fun e w' => e = .returned (.bool false) ∧ Below w.heap.size w w' := by
 go_enter Tryd.func24, Tryd.ntmps24
 have sb := sbmk w
 (repeat ((fail_if_success with_reducible refine rg ?_); go_step))
 refine wp_region_pw ?_
 refine pw_value (by rfl) (.bool false) (fun _ => rfl) ?_
 simp only [Act.put, pu]
 refine pw_nil ?_
 (repeat ((fail_if_success with_reducible refine rg ?_); go_step))
 refine wp_region_pw ?_
 refine pw_mv (by rfl) rfl rfl ?_
 simp only [Act.put, pu]
 refine pw_value (by rfl) (.bool false) (exec_neq_nilp _ _ _ _ rfl none rfl rfl ptr_tp) ?_
 simp only [Act.put, pu]
 refine pw_mv (by rfl) rfl rfl ?_
 simp only [Act.put, pu]
 refine pw_skip (by rfl) ?_
 simp only [Act.put, pu]
 refine pw_skip (by rfl) ?_
 simp only [Act.put, pu]
 refine pw_skip (by rfl) ?_
 simp only [Act.put, pu]
 refine pw_skip (by rfl) ?_
 simp only [Act.put, pu]
 refine pw_pick (by rfl) false (v := .bool false) rfl rfl rfl ?_
 simp only [Act.put, pu]
 refine pw_as (by rfl) rfl rfl ?_
 simp only [Act.put, pu]
 refine pw_nil ?_
 go_wp2
 go_ret
 exact ⟨rfl, sb⟩
set_option maxRecDepth 100000 in
set_option maxHeartbeats 2000000 in
theorem isMade_at (g0 : Nat) (m : Bool) (s : List UInt8) (w : World) (r0 : Row w g0 (tpC m s) 62) :
  Calls Tryd.prog 24 #[.pointer (some ⟨g0, 0, none⟩)] w fun e w' => e = .returned (.bool m) ∧ Below w.heap.size w w' := by
 go_enter Tryd.func24, Tryd.ntmps24
 have sb := sbmk w
 (repeat ((fail_if_success with_reducible refine rg ?_); go_step))
 refine wp_region_pw ?_
 refine pw_value (by rfl) (.bool false) (fun _ => rfl) ?_
 simp only [Act.put, pu]
 refine pw_nil ?_
 (repeat ((fail_if_success with_reducible refine rg ?_); go_step))
 refine wp_region_pw ?_
 refine pw_mv (by rfl) rfl rfl ?_
 simp only [Act.put, pu]
 refine pw_value (by rfl) (.bool true) (exec_neq_nilp _ _ _ _ rfl (some ⟨g0, 0, none⟩) rfl rfl ptr_tp) ?_
 simp only [Act.put, pu]
 refine pw_mv (by rfl) rfl rfl ?_
 simp only [Act.put, pu]
 refine pw_mv (by rfl) rfl rfl ?_
 simp only [Act.put, pu]
 refine pw_value (by rfl) (.pointer (some ⟨g0, 0, none⟩)) (exec_nil _ rfl g0 0 rfl) ?_
 simp only [Act.put, pu]
 refine pw_value (by rfl) (.pointer (some ⟨g0, 0, none⟩)) (exec_field 62 _ 0 rfl g0 0 rfl _ Tryd.underlying62 _ rfl 0 Tryd.sizeOf4) ?_
 simp only [Act.put, pu]
 refine pw_loadk (by rfl) 4 _ rfl _ (0) rfl r0.r (.bool m) rfl Tryd.isAgg4 ?_
 simp only [Act.put, pu]
 refine pw_pick (by rfl) true (v := .bool m) rfl rfl rfl ?_
 simp only [Act.put, pu]
 refine pw_as (by rfl) rfl rfl ?_
 simp only [Act.put, pu]
 refine pw_nil ?_
 go_wp2
 go_ret
 exact ⟨rfl, sb⟩
theorem isMade_any (v : Option Addr) (m : Bool) (s : List UInt8) (w : World) (h : TpAt w v m s) :
  Calls Tryd.prog 24 #[.pointer v] w fun e w' => e = .returned (.bool m) ∧ Below w.heap.size w w' := by
 rcases h with ⟨rfl, rfl⟩ | ⟨g, rfl, hr⟩
 ·exact isMade_nil w
 ·exact isMade_at g m s w hr
set_option maxRecDepth 100000 in
set_option maxHeartbeats 2000000 in
theorem tnew_big (s : List UInt8) (w : World) (h : 65536 < s.length) :
  Calls Tryd.prog 8 #[.string ⟨(s).toArray⟩] w fun e w' => e = .returned (.tuple #[.pointer none, .int .i64 2]) ∧ Below w.heap.size w w' := by
 go_enter Tryd.func8, Tryd.ntmps8
 have sb := sbmk w
 (repeat ((fail_if_success with_reducible refine rg ?_); go_step))
 refine wp_region_pw ?_
 refine pw_value (by rfl) (.pointer none) (fun _ => rfl) ?_
 simp only [Act.put, pu]
 refine pw_value (by rfl) (.int .i64 0) (fun _ => rfl) ?_
 simp only [Act.put, pu]
 refine pw_nil ?_
 (repeat ((fail_if_success with_reducible refine rg ?_); go_step))
 refine wp_region_pw ?_
 refine pw_mv (by rfl) rfl rfl ?_
 simp only [Act.put, pu]
 refine pw_value (by rfl) (.int .i64 s.length) (y_lenS _ _ rfl s rfl Tryd.underlying9) ?_
 simp only [Act.put, pu]
 refine pw_value (by rfl) (.bool true) (exec_gt_i _ _ _ _ rfl s.length 65536 rfl rfl true (decide_eq_true (by omega))) ?_
 simp only [Act.put, pu]
 refine pw_nil ?_
 (repeat ((fail_if_success with_reducible refine rg ?_); go_step))
 refine wp_region_pw ?_
 refine pw_value (by rfl) (.pointer none) (fun _ => rfl) ?_
 simp only [Act.put, pu]
 refine pw_value (by rfl) (.int .i64 2) (fun _ => rfl) ?_
 simp only [Act.put, pu]
 refine pw_nil ?_
 go_wp2
 go_ret2
 exact ⟨rfl, sb⟩
set_option maxRecDepth 100000 in
set_option maxHeartbeats 2000000 in
theorem tnew_ok (s : List UInt8) (w : World) (h : s.length ≤ 65536) :
  Calls Tryd.prog 8 #[.string ⟨(s).toArray⟩] w fun e w' => ∃ g, e = .returned (.tuple #[.pointer (some ⟨g, 0, none⟩), .int .i64 0]) ∧ w.heap.size ≤ g ∧ Row w' g (tpC true s) 62 ∧ Below w.heap.size w w' := by
 go_enter Tryd.func8, Tryd.ntmps8
 have sb := sbmk w
 (repeat ((fail_if_success with_reducible refine rg ?_); go_step))
 refine wp_region_pw ?_
 refine pw_value (by rfl) (.pointer none) (fun _ => rfl) ?_
 simp only [Act.put, pu]
 refine pw_value (by rfl) (.int .i64 0) (fun _ => rfl) ?_
 simp only [Act.put, pu]
 refine pw_nil ?_
 (repeat ((fail_if_success with_reducible refine rg ?_); go_step))
 refine wp_region_pw ?_
 refine pw_mv (by rfl) rfl rfl ?_
 simp only [Act.put, pu]
 refine pw_value (by rfl) (.int .i64 s.length) (y_lenS _ _ rfl s rfl Tryd.underlying9) ?_
 simp only [Act.put, pu]
 refine pw_value (by rfl) (.bool false) (exec_gt_i _ _ _ _ rfl s.length 65536 rfl rfl false (decide_eq_false (by omega))) ?_
 simp only [Act.put, pu]
 refine pw_nil ?_
 (repeat ((fail_if_success with_reducible refine rg ?_); go_step))
 refine wp_region_pw ?_
 refine pw_mv (by rfl) rfl rfl ?_
 simp only [Act.put, pu]
 refine pw_value (by rfl) (.agg (tpC true s)) (exec_buildv _ [_, _] rfl _ rfl _ (built_tp s)) ?_
 simp only [Act.put, pu]
 refine pw_boxr (by rfl) 62 _ rfl (_) rfl ?_
 intro g9 z3002 n0 r9 k
 simp only [Act.put, pu]
 have b9 := Nat.le_trans sb.size n0
 clear n0
 replace sb := sb.trans (k.below w.heap.size sb.size (by simp <;> omega))
 clear k
 refine pw_as (by rfl) rfl rfl ?_
 simp only [Act.put, pu]
 refine pw_value (by rfl) (.int .i64 0) (fun _ => rfl) ?_
 simp only [Act.put, pu]
 refine pw_nil ?_
 go_wp2
 go_ret2
 exact ⟨g9, rfl, b9, r9, sb⟩
set_option maxRecDepth 100000 in
set_option maxHeartbeats 2000000 in
theorem tleft_no (v : Option Addr) (s : List UInt8) (w : World) (h : TpAt w v false s) :
  Calls Tryd.prog 10 #[.pointer v] w fun e w' => e = .returned (.int .i64 0) ∧ Below w.heap.size w w' := by
 have him := fun w' (hb : Below w.heap.size w w') => isMade_any v false s w' (h.below hb)
 clear h
 go_enter Tryd.func10, Tryd.ntmps10
 have sb := sbmk w
 (repeat ((fail_if_success with_reducible refine rg ?_); go_step))
 refine wp_region_pw ?_
 refine pw_value (by rfl) (.int .i64 0) (fun _ => rfl) ?_
 simp only [Act.put, pu]
 refine pw_nil ?_
 (repeat ((fail_if_success with_reducible refine rg ?_); go_step))
 refine wp_region_pw ?_
 refine pw_mv (by rfl) rfl rfl ?_
 simp only [Act.put, pu]
 refine pw_callB (by rfl) 24 _ _ rfl Tryd.func24 (by kernel_rfl) #[.pointer v] rfl _ (him _ sb) ?_
 intro z1001 k
 simp only [Act.put, pu]
 replace sb := sb.trans (k.below w.heap.size sb.size (by simp <;> omega))
 clear k
 refine pw_value (by rfl) (.bool true) (exec_not _ _ rfl false rfl) ?_
 simp only [Act.put, pu]
 refine pw_nil ?_
 (repeat ((fail_if_success with_reducible refine rg ?_); go_step))
 refine wp_region_pw ?_
 refine pw_value (by rfl) (.int .i64 0) (fun _ => rfl) ?_
 simp only [Act.put, pu]
 refine pw_nil ?_
 go_wp2
 go_ret
 exact ⟨rfl, sb⟩
set_option maxRecDepth 100000 in
set_option maxHeartbeats 2000000 in
theorem tleft_ok (g0 : Nat) (s : List UInt8) (w : World) (r0 : Row w g0 (tpC true s) 62) :
  Calls Tryd.prog 10 #[.pointer (some ⟨g0, 0, none⟩)] w fun e w' => e = .returned (.int .i64 s.length) ∧ Below w.heap.size w w' := by
 go_enter Tryd.func10, Tryd.ntmps10
 have sb := sbmk w
 (repeat ((fail_if_success with_reducible refine rg ?_); go_step))
 refine wp_region_pw ?_
 refine pw_value (by rfl) (.int .i64 0) (fun _ => rfl) ?_
 simp only [Act.put, pu]
 refine pw_nil ?_
 (repeat ((fail_if_success with_reducible refine rg ?_); go_step))
 refine wp_region_pw ?_
 refine pw_mv (by rfl) rfl rfl ?_
 simp only [Act.put, pu]
 refine pw_callB (by rfl) 24 _ _ rfl Tryd.func24 (by kernel_rfl) #[.pointer (some ⟨g0, 0, none⟩)] rfl _ (isMade_at g0 true s _ r0) ?_
 intro z1001 k
 simp only [Act.put, pu]
 replace r0 := k.row r0 (by simp <;> omega)
 replace sb := sb.trans (k.below w.heap.size sb.size (by simp <;> omega))
 clear k
 refine pw_value (by rfl) (.bool false) (exec_not _ _ rfl true rfl) ?_
 simp only [Act.put, pu]
 refine pw_nil ?_
 (repeat ((fail_if_success with_reducible refine rg ?_); go_step))
 refine wp_region_pw ?_
 refine pw_mv (by rfl) rfl rfl ?_
 simp only [Act.put, pu]
 refine pw_value (by rfl) (.pointer (some ⟨g0, 0, none⟩)) (exec_nil _ rfl g0 0 rfl) ?_
 simp only [Act.put, pu]
 refine pw_value (by rfl) (.pointer (some ⟨g0, 1, none⟩)) (exec_field 62 _ 1 rfl g0 0 rfl _ Tryd.underlying62 _ rfl 0 Tryd.sizeOf9) ?_
 simp only [Act.put, pu]
 refine pw_loadk (by rfl) 9 _ rfl _ (1) rfl r0.r (.string ⟨s.toArray⟩) rfl Tryd.isAgg9 ?_
 simp only [Act.put, pu]
 refine pw_value (by rfl) (.int .i64 s.length) (y_lenS _ _ rfl s rfl Tryd.underlying9) ?_
 simp only [Act.put, pu]
 refine pw_as (by rfl) rfl rfl ?_
 simp only [Act.put, pu]
 refine pw_nil ?_
 go_wp2
 go_ret
 exact ⟨rfl, sb⟩
set_option maxRecDepth 100000 in
set_option maxHeartbeats 2000000 in
theorem tbytes_no (v : Option Addr) (s : List UInt8) (n : Int) (w : World) (h : TpAt w v false s) :
  Calls Tryd.prog 9 #[.pointer v, .int .i64 n] w fun e w' => e = .returned (.tuple #[.string ⟨([] : List UInt8).toArray⟩, .int .i64 1]) ∧ Below w.heap.size w w' := by
 have him := fun w' (hb : Below w.heap.size w w') => isMade_any v false s w' (h.below hb)
 clear h
 go_enter Tryd.func9, Tryd.ntmps9
 have sb := sbmk w
 (repeat ((fail_if_success with_reducible refine rg ?_); go_step))
 refine wp_region_pw ?_
 refine pw_move (by rfl) (.inr rfl) rfl ?_
 simp only [Act.put, pu]
 refine pw_value (by rfl) (.int .i64 0) (fun _ => rfl) ?_
 simp only [Act.put, pu]
 refine pw_nil ?_
 (repeat ((fail_if_success with_reducible refine rg ?_); go_step))
 refine wp_region_pw ?_
 refine pw_mv (by rfl) rfl rfl ?_
 simp only [Act.put, pu]
 refine pw_callB (by rfl) 24 _ _ rfl Tryd.func24 (by kernel_rfl) #[.pointer v] rfl _ (him _ sb) ?_
 intro z1001 k
 simp only [Act.put, pu]
 replace sb := sb.trans (k.below w.heap.size sb.size (by simp <;> omega))
 clear k
 refine pw_value (by rfl) (.bool true) (exec_not _ _ rfl false rfl) ?_
 simp only [Act.put, pu]
 refine pw_mv (by rfl) rfl rfl ?_
 simp only [Act.put, pu]
 refine pw_skip (by rfl) ?_
 simp only [Act.put, pu]
 refine pw_skip (by rfl) ?_
 simp only [Act.put, pu]
 refine pw_pick (by rfl) true (v := .bool true) rfl rfl rfl ?_
 simp only [Act.put, pu]
 refine pw_nil ?_
 (repeat ((fail_if_success with_reducible refine rg ?_); go_step))
 refine wp_region_pw ?_
 refine pw_move (by rfl) (.inr rfl) rfl ?_
 simp only [Act.put, pu]
 refine pw_value (by rfl) (.int .i64 1) (fun _ => rfl) ?_
 simp only [Act.put, pu]
 refine pw_nil ?_
 go_wp2
 go_ret2
 exact ⟨rfl, sb⟩
set_option maxRecDepth 100000 in
set_option maxHeartbeats 2000000 in
theorem tbytes_neg (g0 : Nat) (s : List UInt8) (n : Int) (w : World) (hn : n < 0) (r0 : Row w g0 (tpC true s) 62) :
  Calls Tryd.prog 9 #[.pointer (some ⟨g0, 0, none⟩), .int .i64 n] w fun e w' => e = .returned (.tuple #[.string ⟨([] : List UInt8).toArray⟩, .int .i64 1]) ∧ Below w.heap.size w w' := by
 go_enter Tryd.func9, Tryd.ntmps9
 have sb := sbmk w
 (repeat ((fail_if_success with_reducible refine rg ?_); go_step))
 refine wp_region_pw ?_
 refine pw_move (by rfl) (.inr rfl) rfl ?_
 simp only [Act.put, pu]
 refine pw_value (by rfl) (.int .i64 0) (fun _ => rfl) ?_
 simp only [Act.put, pu]
 refine pw_nil ?_
 (repeat ((fail_if_success with_reducible refine rg ?_); go_step))
 refine wp_region_pw ?_
 refine pw_mv (by rfl) rfl rfl ?_
 simp only [Act.put, pu]
 refine pw_callB (by rfl) 24 _ _ rfl Tryd.func24 (by kernel_rfl) #[.pointer (some ⟨g0, 0, none⟩)] rfl _ (isMade_at g0 true s _ r0) ?_
 intro z1001 k
 simp only [Act.put, pu]
 replace r0 := k.row r0 (by simp <;> omega)
 replace sb := sb.trans (k.below w.heap.size sb.size (by simp <;> omega))
 clear k
 refine pw_value (by rfl) (.bool false) (exec_not _ _ rfl true rfl) ?_
 simp only [Act.put, pu]
 refine pw_mv (by rfl) rfl rfl ?_
 simp only [Act.put, pu]
 refine pw_mv (by rfl) rfl rfl ?_
 simp only [Act.put, pu]
 refine pw_value (by rfl) (.bool true) (exec_lt_b _ _ _ _ rfl n 0 rfl rfl true (decide_eq_true hn)) ?_
 simp only [Act.put, pu]
 refine pw_pick (by rfl) false (v := .bool true) rfl rfl rfl ?_
 simp only [Act.put, pu]
 refine pw_nil ?_
 (repeat ((fail_if_success with_reducible refine rg ?_); go_step))
 refine wp_region_pw ?_
 refine pw_move (by rfl) (.inr rfl) rfl ?_
 simp only [Act.put, pu]
 refine pw_value (by rfl) (.int .i64 1) (fun _ => rfl) ?_
 simp only [Act.put, pu]
 refine pw_nil ?_
 go_wp2
 go_ret2
 exact ⟨rfl, sb⟩
set_option maxRecDepth 100000 in
set_option maxHeartbeats 2000000 in
theorem tbytes_more (g0 : Nat) (s : List UInt8) (n : Int) (w : World) (hn : ¬ n < 0) (hm : (s.length : Int) < n) (r0 : Row w g0 (tpC true s) 62) :
  Calls Tryd.prog 9 #[.pointer (some ⟨g0, 0, none⟩), .int .i64 n] w fun e w' => e = .returned (.tuple #[.string ⟨([] : List UInt8).toArray⟩, .int .i64 5]) ∧ Below w.heap.size w w' := by
 go_enter Tryd.func9, Tryd.ntmps9
 have sb := sbmk w
 (repeat ((fail_if_success with_reducible refine rg ?_); go_step))
 refine wp_region_pw ?_
 refine pw_move (by rfl) (.inr rfl) rfl ?_
 simp only [Act.put, pu]
 refine pw_value (by rfl) (.int .i64 0) (fun _ => rfl) ?_
 simp only [Act.put, pu]
 refine pw_nil ?_
 (repeat ((fail_if_success with_reducible refine rg ?_); go_step))
 refine wp_region_pw ?_
 refine pw_mv (by rfl) rfl rfl ?_
 simp only [Act.put, pu]
 refine pw_callB (by rfl) 24 _ _ rfl Tryd.func24 (by kernel_rfl) #[.pointer (some ⟨g0, 0, none⟩)] rfl _ (isMade_at g0 true s _ r0) ?_
 intro z1001 k
 simp only [Act.put, pu]
 replace r0 := k.row r0 (by simp <;> omega)
 replace sb := sb.trans (k.below w.heap.size sb.size (by simp <;> omega))
 clear k
 refine pw_value (by rfl) (.bool false) (exec_not _ _ rfl true rfl) ?_
 simp only [Act.put, pu]
 refine pw_mv (by rfl) rfl rfl ?_
 simp only [Act.put, pu]
 refine pw_mv (by rfl) rfl rfl ?_
 simp only [Act.put, pu]
 refine pw_value (by rfl) (.bool false) (exec_lt_b _ _ _ _ rfl n 0 rfl rfl false (decide_eq_false hn)) ?_
 simp only [Act.put, pu]
 refine pw_pick (by rfl) false (v := .bool false) rfl rfl rfl ?_
 simp only [Act.put, pu]
 refine pw_nil ?_
 (repeat ((fail_if_success with_reducible refine rg ?_); go_step))
 refine wp_region_pw ?_
 refine pw_mv (by rfl) rfl rfl ?_
 simp only [Act.put, pu]
 refine pw_mv (by rfl) rfl rfl ?_
 simp only [Act.put, pu]
 refine pw_value (by rfl) (.pointer (some ⟨g0, 0, none⟩)) (exec_nil _ rfl g0 0 rfl) ?_
 simp only [Act.put, pu]
 refine pw_value (by rfl) (.pointer (some ⟨g0, 1, none⟩)) (exec_field 62 _ 1 rfl g0 0 rfl _ Tryd.underlying62 _ rfl 0 Tryd.sizeOf9) ?_
 simp only [Act.put, pu]
 refine pw_loadk (by rfl) 9 _ rfl _ (1) rfl r0.r (.string ⟨s.toArray⟩) rfl Tryd.isAgg9 ?_
 simp only [Act.put, pu]
 refine pw_value (by rfl) (.int .i64 s.length) (y_lenS _ _ rfl s rfl Tryd.underlying9) ?_
 simp only [Act.put, pu]
 refine pw_value (by rfl) (.bool true) (exec_gt_i _ _ _ _ rfl n s.length rfl rfl true (decide_eq_true hm)) ?_
 simp only [Act.put, pu]
 refine pw_nil ?_
 (repeat ((fail_if_success with_reducible refine rg ?_); go_step))
 refine wp_region_pw ?_
 refine pw_move (by rfl) (.inr rfl) rfl ?_
 simp only [Act.put, pu]
 refine pw_value (by rfl) (.int .i64 5) (fun _ => rfl) ?_
 simp only [Act.put, pu]
 refine pw_nil ?_
 go_wp2
 go_ret2
 exact ⟨rfl, sb⟩
set_option maxRecDepth 100000 in
set_option maxHeartbeats 2000000 in
theorem tbytes_ok (g0 : Nat) (s : List UInt8) (n : Nat) (w : World) (hm : n ≤ s.length) (r0 : Row w g0 (tpC true s) 62) :
  Calls Tryd.prog 9 #[.pointer (some ⟨g0, 0, none⟩), .int .i64 n] w fun e w' => e = .returned (.tuple #[.string ⟨(s.take n).toArray⟩, .int .i64 0]) ∧ Row w' g0 (tpC true (s.drop n)) 62 ∧ Kept [g0] w w' := by
 go_enter Tryd.func9, Tryd.ntmps9
 have sb := sbmk w
 (repeat ((fail_if_success with_reducible refine rg ?_); go_step))
 refine wp_region_pw ?_
 refine pw_move (by rfl) (.inr rfl) rfl ?_
 simp only [Act.put, pu]
 refine pw_value (by rfl) (.int .i64 0) (fun _ => rfl) ?_
 simp only [Act.put, pu]
 refine pw_nil ?_
 (repeat ((fail_if_success with_reducible refine rg ?_); go_step))
 refine wp_region_pw ?_
 refine pw_mv (by rfl) rfl rfl ?_
 simp only [Act.put, pu]
 refine pw_callB (by rfl) 24 _ _ rfl Tryd.func24 (by kernel_rfl) #[.pointer (some ⟨g0, 0, none⟩)] rfl _ (isMade_at g0 true s _ r0) ?_
 intro z1001 k
 simp only [Act.put, pu]
 replace r0 := k.row r0 (by simp <;> omega)
 replace sb := sb.trans (k.below w.heap.size sb.size (by simp <;> omega))
 clear k
 refine pw_value (by rfl) (.bool false) (exec_not _ _ rfl true rfl) ?_
 simp only [Act.put, pu]
 refine pw_mv (by rfl) rfl rfl ?_
 simp only [Act.put, pu]
 refine pw_mv (by rfl) rfl rfl ?_
 simp only [Act.put, pu]
 refine pw_value (by rfl) (.bool false) (exec_lt_b _ _ _ _ rfl (n : Int) 0 rfl rfl false (decide_eq_false (by omega))) ?_
 simp only [Act.put, pu]
 refine pw_pick (by rfl) false (v := .bool false) rfl rfl rfl ?_
 simp only [Act.put, pu]
 refine pw_nil ?_
 (repeat ((fail_if_success with_reducible refine rg ?_); go_step))
 refine wp_region_pw ?_
 refine pw_mv (by rfl) rfl rfl ?_
 simp only [Act.put, pu]
 refine pw_mv (by rfl) rfl rfl ?_
 simp only [Act.put, pu]
 refine pw_value (by rfl) (.pointer (some ⟨g0, 0, none⟩)) (exec_nil _ rfl g0 0 rfl) ?_
 simp only [Act.put, pu]
 refine pw_value (by rfl) (.pointer (some ⟨g0, 1, none⟩)) (exec_field 62 _ 1 rfl g0 0 rfl _ Tryd.underlying62 _ rfl 0 Tryd.sizeOf9) ?_
 simp only [Act.put, pu]
 refine pw_loadk (by rfl) 9 _ rfl _ (1) rfl r0.r (.string ⟨s.toArray⟩) rfl Tryd.isAgg9 ?_
 simp only [Act.put, pu]
 refine pw_value (by rfl) (.int .i64 s.length) (y_lenS _ _ rfl s rfl Tryd.underlying9) ?_
 simp only [Act.put, pu]
 refine pw_value (by rfl) (.bool false) (exec_gt_i _ _ _ _ rfl n s.length rfl rfl false (decide_eq_false (by omega))) ?_
 simp only [Act.put, pu]
 refine pw_nil ?_
 (repeat ((fail_if_success with_reducible refine rg ?_); go_step))
 refine wp_region_pw ?_
 refine pw_mv (by rfl) rfl rfl ?_
 simp only [Act.put, pu]
 refine pw_value (by rfl) (.pointer (some ⟨g0, 0, none⟩)) (exec_nil _ rfl g0 0 rfl) ?_
 simp only [Act.put, pu]
 refine pw_value (by rfl) (.pointer (some ⟨g0, 1, none⟩)) (exec_field 62 _ 1 rfl g0 0 rfl _ Tryd.underlying62 _ rfl 0 Tryd.sizeOf9) ?_
 simp only [Act.put, pu]
 refine pw_loadk (by rfl) 9 _ rfl _ (1) rfl r0.r (.string ⟨s.toArray⟩) rfl Tryd.isAgg9 ?_
 simp only [Act.put, pu]
 refine pw_mv (by rfl) rfl rfl ?_
 simp only [Act.put, pu]
 refine pw_value (by rfl) (.string ⟨(s.take n).toArray⟩) (y_upto _ _ _ Tryd.underlying9 rfl s n rfl rfl hm) ?_
 simp only [Act.put, pu]
 refine pw_as (by rfl) rfl rfl ?_
 simp only [Act.put, pu]
 refine pw_nil ?_
 have sk := Kept.ofBelow sb
 replace sk := Kept.trans (Kept.refl [g0] w) sk (by simp)
 clear sb
 (repeat ((fail_if_success with_reducible refine rg ?_); go_step))
 refine wp_region_pw ?_
 refine pw_mv (by rfl) rfl rfl ?_
 simp only [Act.put, pu]
 refine pw_mv (by rfl) rfl rfl ?_
 simp only [Act.put, pu]
 refine pw_value (by rfl) (.pointer (some ⟨g0, 0, none⟩)) (exec_nil _ rfl g0 0 rfl) ?_
 simp only [Act.put, pu]
 refine pw_value (by rfl) (.pointer (some ⟨g0, 1, none⟩)) (exec_field 62 _ 1 rfl g0 0 rfl _ Tryd.underlying62 _ rfl 0 Tryd.sizeOf9) ?_
 simp only [Act.put, pu]
 refine pw_loadk (by rfl) 9 _ rfl _ (1) rfl r0.r (.string ⟨s.toArray⟩) rfl Tryd.isAgg9 ?_
 simp only [Act.put, pu]
 refine pw_mv (by rfl) rfl rfl ?_
 simp only [Act.put, pu]
 refine pw_value (by rfl) (.string ⟨(s.drop n).toArray⟩) (y_from _ _ _ Tryd.underlying9 rfl s n rfl rfl hm) ?_
 simp only [Act.put, pu]
 refine pw_value (by rfl) (.pointer (some ⟨g0, 0, none⟩)) (exec_nil _ rfl g0 0 rfl) ?_
 simp only [Act.put, pu]
 refine pw_value (by rfl) (.pointer (some ⟨g0, 1, none⟩)) (exec_field 62 _ 1 rfl g0 0 rfl _ Tryd.underlying62 _ rfl 0 Tryd.sizeOf9) ?_
 simp only [Act.put, pu]
 refine pw_putv (by rfl) 9 _ _ rfl _ (1) rfl r0 (.string ⟨(s.drop n).toArray⟩) rfl rfl rfl size1tstring (by exact (by decide : 1 < 2)) (tpC true (s.drop n)) (tp_put _ _ _) ?_
 clear r0
 intro z6009 r0 k
 simp only [Act.put]
 replace sk := sk.trans k (by simp <;> omega)
 clear k
 refine pw_nil ?_
 (repeat ((fail_if_success with_reducible refine rg ?_); go_step))
 refine wp_region_pw ?_
 refine pw_mv (by rfl) rfl rfl ?_
 simp only [Act.put, pu]
 refine pw_as (by rfl) rfl rfl ?_
 simp only [Act.put, pu]
 refine pw_value (by rfl) (.int .i64 0) (fun _ => rfl) ?_
 simp only [Act.put, pu]
 refine pw_nil ?_
 go_wp2
 go_ret2
 exact ⟨rfl, r0, sk⟩
set_option maxRecDepth 100000 in
set_option maxHeartbeats 2000000 in
theorem trimByte_any (l : List UInt8) (w : World) :
  Calls Tryd.prog 72 #[.string ⟨(l).toArray⟩, .int .u8 0] w fun e w' => e = .returned (.string ⟨(trimL l).toArray⟩) ∧ Below w.heap.size w w' := by
 go_enter Tryd.func72, Tryd.ntmps72
 have sb := sbmk w
 (repeat ((fail_if_success with_reducible refine rg ?_); go_step))
 refine wp_region_pw ?_
 refine pw_move (by rfl) (.inr rfl) rfl ?_
 simp only [Act.put, pu]
 refine pw_nil ?_
 go_wp2_with fail
 go_loopg [0] l.length (fun g s0 wr => ∃ r : List UInt8, r.length = g ∧ s0 = .string ⟨(r).toArray⟩ ∧ trimL r = trimL l ∧ Below w.heap.size w wr)
 case atStart => exact ⟨l, rfl, rfl, rfl, sb⟩
 case round =>
  clear sb
  obtain ⟨r, hr, rfl, ht, sb⟩ := hrel
  cases r with
  | nil =>
   have HT : Hid (trimL [] = trimL l) := ht
   clear ht hr
   (repeat ((fail_if_success with_reducible refine rg ?_); go_step))
   refine wp_region_pw ?_
   refine pw_mv (by rfl) rfl rfl ?_
   simp only [Act.put, pu]
   refine pw_value (by rfl) (.int .i64 (0 : Nat)) (y_lenS _ _ rfl [] rfl Tryd.underlying9) ?_
   simp only [Act.put, pu]
   refine pw_value (by rfl) (.bool false) (exec_gt_i _ _ _ _ rfl (0 : Nat) 0 rfl rfl false rfl) ?_
   simp only [Act.put, pu]
   refine pw_mv (by rfl) rfl rfl ?_
   simp only [Act.put, pu]
   refine pw_skip (by rfl) ?_
   simp only [Act.put, pu]
   refine pw_skip (by rfl) ?_
   simp only [Act.put, pu]
   refine pw_skip (by rfl) ?_
   simp only [Act.put, pu]
   refine pw_skip (by rfl) ?_
   simp only [Act.put, pu]
   refine pw_pick (by rfl) false (v := .bool false) rfl rfl rfl ?_
   simp only [Act.put, pu]
   refine pw_nil ?_
   (repeat ((fail_if_success with_reducible refine rg ?_); go_step))
   refine wp_region_pw ?_
   refine pw_mv (by rfl) rfl rfl ?_
   simp only [Act.put, pu]
   refine pw_as (by rfl) rfl rfl ?_
   simp only [Act.put, pu]
   refine pw_nil ?_
   go_wp2
   go_ret
   exact ⟨by rw [← HT.out]; rfl, sb⟩
  | cons b r =>
   have hlen : (0 : Int) < (((b :: r).length : Nat) : Int) := by rw [List.length_cons]; omega
   by_cases hb : b = 0
   ·rw [trimL_nil hb] at ht
    have HT : Hid (trimL r = trimL l) := ht
    clear ht
    have hz : decide ((yb (b :: r) 0 : Int) = 0) = true := by subst hb; rfl
    (repeat ((fail_if_success with_reducible refine rg ?_); go_step))
    refine wp_region_pw ?_
    refine pw_mv (by rfl) rfl rfl ?_
    simp only [Act.put, pu]
    refine pw_value (by rfl) (.int .i64 (b :: r).length) (y_lenS _ _ rfl (b :: r) rfl Tryd.underlying9) ?_
    simp only [Act.put, pu]
    refine pw_value (by rfl) (.bool true) (exec_gt_i _ _ _ _ rfl (b :: r).length 0 rfl rfl true (decide_eq_true hlen)) ?_
    simp only [Act.put, pu]
    refine pw_mv (by rfl) rfl rfl ?_
    simp only [Act.put, pu]
    refine pw_mv (by rfl) rfl rfl ?_
    simp only [Act.put, pu]
    refine pw_value (by rfl) (.int .u8 (yb (b :: r) 0 : Nat)) (y_index _ _ _ rfl Tryd.underlying9 (b :: r) rfl .i64 0 rfl (by simp)) ?_
    simp only [Act.put, pu]
    refine pw_mv (by rfl) rfl rfl ?_
    simp only [Act.put, pu]
    refine pw_value (by rfl) (.bool true) (exec_eql_k .u8 _ _ _ _ rfl (yb (b :: r) 0 : Nat) 0 rfl rfl true hz) ?_
    simp only [Act.put, pu]
    refine pw_pick (by rfl) true (v := .bool true) rfl rfl rfl ?_
    simp only [Act.put, pu]
    refine pw_nil ?_
    clear hz hlen
    (repeat ((fail_if_success with_reducible refine rg ?_); go_step))
    refine wp_region_pw ?_
    refine pw_mv (by rfl) rfl rfl ?_
    simp only [Act.put, pu]
    refine pw_value (by rfl) (.string ⟨(r).toArray⟩) (fun w => y_from _ _ _ Tryd.underlying9 rfl (b :: r) 1 rfl rfl (by simp) w) ?_
    simp only [Act.put, pu]
    refine pw_as (by rfl) rfl rfl ?_
    simp only [Act.put, List.setIfInBounds_toArray, List.set_cons_zero]
    refine pw_nil ?_
    go_wp2
    go_roundg r.length
    case measure => simp at hr; omega
    case rel => exact ⟨r, rfl, rfl, HT.out, sb⟩
   ·rw [trimL_stop hb] at ht
    have HT : Hid (b :: r = trimL l) := ht
    have hz : decide ((yb (b :: r) 0 : Int) = 0) = false := by
     refine decide_eq_false fun e => hb ?_
     have : b.toNat = 0 := by
      unfold yb at e
      simpa using e
     exact UInt8.toNat_inj.1 this
    clear ht
    (repeat ((fail_if_success with_reducible refine rg ?_); go_step))
    refine wp_region_pw ?_
    refine pw_mv (by rfl) rfl rfl ?_
    simp only [Act.put, pu]
    refine pw_value (by rfl) (.int .i64 (b :: r).length) (y_lenS _ _ rfl (b :: r) rfl Tryd.underlying9) ?_
    simp only [Act.put, pu]
    refine pw_value (by rfl) (.bool true) (exec_gt_i _ _ _ _ rfl (b :: r).length 0 rfl rfl true (decide_eq_true hlen)) ?_
    simp only [Act.put, pu]
    refine pw_mv (by rfl) rfl rfl ?_
    simp only [Act.put, pu]
    refine pw_mv (by rfl) rfl rfl ?_
    simp only [Act.put, pu]
    refine pw_value (by rfl) (.int .u8 (yb (b :: r) 0 : Nat)) (y_index _ _ _ rfl Tryd.underlying9 (b :: r) rfl .i64 0 rfl (by simp)) ?_
    simp only [Act.put, pu]
    refine pw_mv (by rfl) rfl rfl ?_
    simp only [Act.put, pu]
    refine pw_value (by rfl) (.bool false) (exec_eql_k .u8 _ _ _ _ rfl (yb (b :: r) 0 : Nat) 0 rfl rfl false hz) ?_
    simp only [Act.put, pu]
    refine pw_pick (by rfl) true (v := .bool false) rfl rfl rfl ?_
    simp only [Act.put, pu]
    refine pw_nil ?_
    clear hz hlen
    (repeat ((fail_if_success with_reducible refine rg ?_); go_step))
    refine wp_region_pw ?_
    refine pw_mv (by rfl) rfl rfl ?_
    simp only [Act.put, pu]
    refine pw_as (by rfl) rfl rfl ?_
    simp only [Act.put, pu]
    refine pw_nil ?_
    go_wp2
    go_ret
    exact ⟨by rw [← HT.out]; rfl, sb⟩
set_option maxRecDepth 100000 in
set_option maxHeartbeats 2000000 in
theorem trimLeft_any (l : List UInt8) (w : World) :
  Calls Tryd.prog 51 #[.string ⟨(l).toArray⟩, .string { data := #[0] }] w fun e w' => e = .returned (.string ⟨(trimL l).toArray⟩) ∧ Below w.heap.size w w' := by
 go_enter Tryd.func51, Tryd.ntmps51
 have sb := sbmk w
 (repeat ((fail_if_success with_reducible refine rg ?_); go_step))
 refine wp_region_pw ?_
 refine pw_move (by rfl) (.inr rfl) rfl ?_
 simp only [Act.put, pu]
 refine pw_nil ?_
 cases l with
 | nil =>
  (repeat ((fail_if_success with_reducible refine rg ?_); go_step))
  refine wp_region_pw ?_
  refine pw_mv (by rfl) rfl rfl ?_
  simp only [Act.put, pu]
  refine pw_value (by rfl) (.bool true) (y_eqS _ _ _ _ rfl [] [] rfl rfl true rfl) ?_
  simp only [Act.put, pu]
  refine pw_mv (by rfl) rfl rfl ?_
  simp only [Act.put, pu]
  refine pw_skip (by rfl) ?_
  simp only [Act.put, pu]
  refine pw_skip (by rfl) ?_
  simp only [Act.put, pu]
  refine pw_pick (by rfl) true (v := .bool true) rfl rfl rfl ?_
  simp only [Act.put, pu]
  refine pw_nil ?_
  (repeat ((fail_if_success with_reducible refine rg ?_); go_step))
  refine wp_region_pw ?_
  refine pw_mv (by rfl) rfl rfl ?_
  simp only [Act.put, pu]
  refine pw_as (by rfl) rfl rfl ?_
  simp only [Act.put, pu]
  refine pw_nil ?_
  go_wp2
  go_ret
  exact ⟨rfl, sb⟩
 | cons b r =>
  (repeat ((fail_if_success with_reducible refine rg ?_); go_step))
  refine wp_region_pw ?_
  refine pw_mv (by rfl) rfl rfl ?_
  simp only [Act.put, pu]
  refine pw_value (by rfl) (.bool false) (y_eqS _ _ _ _ rfl (b :: r) [] rfl rfl false (decide_eq_false (by simp))) ?_
  simp only [Act.put, pu]
  refine pw_mv (by rfl) rfl rfl ?_
  simp only [Act.put, pu]
  refine pw_mv (by rfl) rfl rfl ?_
  simp only [Act.put, pu]
  refine pw_value (by rfl) (.bool false) (y_eqS _ _ _ _ rfl [0] [] rfl rfl false (decide_eq_false (by simp))) ?_
  simp only [Act.put, pu]
  refine pw_pick (by rfl) false (v := .bool false) rfl rfl rfl ?_
  simp only [Act.put, pu]
  refine pw_nil ?_
  (repeat ((fail_if_success with_reducible refine rg ?_); go_step))
  refine wp_region_pw ?_
  refine pw_mv (by rfl) rfl rfl ?_
  simp only [Act.put, pu]
  refine pw_value (by rfl) (.int .i64 (1 : Nat)) (y_lenS _ _ rfl [0] rfl Tryd.underlying9) ?_
  simp only [Act.put, pu]
  refine pw_value (by rfl) (.bool true) (exec_eql_k .i64 _ _ _ _ rfl (1 : Nat) 1 rfl rfl true rfl) ?_
  simp only [Act.put, pu]
  refine pw_mv (by rfl) rfl rfl ?_
  simp only [Act.put, pu]
  refine pw_mv (by rfl) rfl rfl ?_
  simp only [Act.put, pu]
  refine pw_value (by rfl) (.int .u8 (yb [0] 0 : Nat)) (y_index _ _ _ rfl Tryd.underlying9 [0] rfl .i64 0 rfl (by simp)) ?_
  simp only [Act.put, pu]
  refine pw_value (by rfl) (.bool true) (tp_lt8 _ _ _ _ rfl (yb [0] 0 : Nat) 128 rfl rfl true rfl) ?_
  simp only [Act.put, pu]
  refine pw_pick (by rfl) true (v := .bool true) rfl rfl rfl ?_
  simp only [Act.put, pu]
  refine pw_nil ?_
  (repeat ((fail_if_success with_reducible refine rg ?_); go_step))
  refine wp_region_pw ?_
  refine pw_mv (by rfl) rfl rfl ?_
  simp only [Act.put, pu]
  refine pw_mv (by rfl) rfl rfl ?_
  simp only [Act.put, pu]
  refine pw_value (by rfl) (.int .u8 (yb [0] 0 : Nat)) (y_index _ _ _ rfl Tryd.underlying9 [0] rfl .i64 0 rfl (by simp)) ?_
  simp only [Act.put, pu]
  refine pw_callB (by rfl) 72 _ _ rfl Tryd.func72 (by kernel_rfl) #[.string ⟨(b :: r).toArray⟩, .int .u8 (0 : Nat)] rfl _ (trimByte_any (b :: r) _) ?_
  intro z4003 k
  simp only [Act.put, pu]
  replace sb := sb.trans (k.below w.heap.size sb.size (by simp <;> omega))
  clear k
  refine pw_as (by rfl) rfl rfl ?_
  simp only [Act.put, pu]
  refine pw_nil ?_
  go_wp2
  go_ret
  exact ⟨rfl, sb⟩
end Go.Proofs.YtlacmkliofnjcaaDoor
/- tape's isGroup, nextTry, Draw, Draws. -/
namespace Go.Proofs.YtlacmkliofnjcaaDoor
open Go.RowKit
set_option linter.unusedVariables false
theorem take_trim (l : List UInt8) (h : l.length ≤ 32) : takeN ⟨(trimL l).toArray⟩ = natB l ∧ takeE ⟨(trimL l).toArray⟩ = 0 := by
 have hb : badB ⟨(trimL l).toArray⟩ = false := by
  unfold badB
  have h1 := trimL_len l
  have h2 := trimL_head l
  rw [ysize]
  rw [decide_eq_false (by omega), Bool.false_or, Bool.and_eq_false_iff]
  right
  simpa using h2
 unfold takeN takeE
 rw [if_neg (by rw [hb]; decide), if_neg (by rw [hb]; decide)]
 exact ⟨trimL_natB l, rfl⟩
theorem tpw1 (b : Nat) (h : b ≤ 256) : IntKind.i64.wrap (((b + 8 : Nat) : Int) - 1) = ((b + 7 : Nat) : Int) := by rw [IntKind.wrap_i64]; omega
theorem tpw2 (b : Nat) (h : b ≤ 256) : IntKind.i64.wrap (((b + 7 : Nat) : Int).tdiv 8) = (((b + 7) / 8 : Nat) : Int) := by
 rw [show (8 : Int) = ((8 : Nat) : Int) from rfl, ← Int.ofNat_tdiv, IntKind.wrap_i64]
 omega
theorem tpw3 (b : Nat) (h : b ≤ 256) : IntKind.i64.wrap ((256 : Int) - (b : Int)) = ((256 - b : Nat) : Int) := by rw [IntKind.wrap_i64]; omega
set_option maxRecDepth 100000 in
set_option maxHeartbeats 2000000 in
theorem isGroup_core (v : Option Addr) (P Q G : Nat) (r f : Option Addr) (B : Bool) (w : World) (hB : (!decide (Q % 2 ^ 256 = 0 % 2 ^ 256)) = B) (h : KnAt w v P Q G r f) :
  Calls Tryd.prog 32 #[.pointer v] w fun e w' => e = .returned (.bool B) ∧ Below w.heap.size w w' := by
 have hq := fun w' (hb : Below w.heap.size w w') => grpQ_any v P Q G r f w' (h.below hb)
 clear h
 go_enter Tryd.func32, Tryd.ntmps32
 have sb := sbmk w
 (repeat ((fail_if_success with_reducible refine rg ?_); go_step))
 refine wp_region_pw ?_
 refine pw_value (by rfl) (.bool false) (fun _ => rfl) ?_
 simp only [Act.put, pu]
 refine pw_nil ?_
 (repeat ((fail_if_success with_reducible refine rg ?_); go_step))
 refine wp_region_pw ?_
 refine pw_mv (by rfl) rfl rfl ?_
 simp only [Act.put, pu]
 refine pw_callB (by rfl) 33 _ _ rfl Tryd.func33 (by kernel_rfl) #[.pointer v] rfl _ (hq _ sb) ?_
 intro z1001 k
 simp only [Act.put, pu]
 replace sb := sb.trans (k.below w.heap.size sb.size (by simp <;> omega))
 clear k
 refine pw_value (by rfl) (.agg (natC 0)) (exec_build0 _ rfl _ built_nat) ?_
 simp only [Act.put, pu]
 refine pw_value (by rfl) (.bool B) (fun w' => (exec_neq_nat _ _ _ rfl Q 0 rfl rfl w').trans (by rw [hB])) ?_
 simp only [Act.put, pu]
 refine pw_as (by rfl) rfl rfl ?_
 simp only [Act.put, pu]
 refine pw_nil ?_
 go_wp2
 go_ret
 exact ⟨rfl, sb⟩
theorem isGroup_yes (v : Option Addr) (P Q G : Nat) (r f : Option Addr) (w : World) (h0 : 0 < Q) (h1 : Q < 2 ^ 256) (h : KnAt w v P Q G r f) :
  Calls Tryd.prog 32 #[.pointer v] w fun e w' => e = .returned (.bool true) ∧ Below w.heap.size w w' :=
 isGroup_core v P Q G r f true w (by rw [Nat.mod_eq_of_lt h1, Nat.zero_mod, decide_eq_false (by omega)]; rfl) h
theorem isGroup_no (v : Option Addr) (w : World) (h : NoG w v) :
  Calls Tryd.prog 32 #[.pointer v] w fun e w' => e = .returned (.bool false) ∧ Below w.heap.size w w' :=
 isGroup_core v 0 0 0 none none false w (by rw [decide_eq_true rfl]; rfl) h
set_option maxRecDepth 100000 in
set_option maxHeartbeats 2000000 in
theorem nextTry_few (g0 b : Nat) (s : List UInt8) (w : World) (hb : b ≤ 256) (hf : s.length < (b + 7) / 8) (r0 : Row w g0 (tpC true s) 62) :
  Calls Tryd.prog 34 #[.pointer (some ⟨g0, 0, none⟩), .int .i64 b] w fun e w' => e = .returned (.tuple #[.agg (natC 0), .int .i64 5]) ∧ Below w.heap.size w w' := by
 go_enter Tryd.func34, Tryd.ntmps34
 have sb := sbmk w
 (repeat ((fail_if_success with_reducible refine rg ?_); go_step))
 refine wp_region_pw ?_
 refine pw_new (by rfl) 35 rfl _ zero_nat ?_
 intro g4 z0 n0 r4 k
 simp only [Act.put, pu]
 have d0x4 := Nat.lt_of_lt_of_le r0.lt n0
 have b4 := Nat.le_trans sb.size n0
 clear n0
 replace r0 := k.row r0 (by simp <;> omega)
 replace sb := sb.trans (k.below w.heap.size sb.size (by simp <;> omega))
 clear k
 refine pw_value (by rfl) (.int .i64 0) (fun _ => rfl) ?_
 simp only [Act.put, pu]
 refine pw_nil ?_
 (repeat ((fail_if_success with_reducible refine rg ?_); go_step))
 refine wp_region_pw ?_
 refine pw_mv (by rfl) rfl rfl ?_
 simp only [Act.put, pu]
 refine pw_mv (by rfl) rfl rfl ?_
 simp only [Act.put, pu]
 refine pw_value (by rfl) (.int .i64 ((b + 8 : Nat) : Int)) (exec_add_in _ _ _ _ rfl b 8 rfl rfl (by omega)) ?_
 simp only [Act.put, pu]
 refine pw_value (by rfl) (.int .i64 ((b + 7 : Nat) : Int)) (y_subI _ _ _ _ rfl ((b + 8 : Nat) : Int) 1 _ rfl rfl (tpw1 b hb)) ?_
 simp only [Act.put, pu]
 refine pw_value (by rfl) (.int .i64 (((b + 7) / 8 : Nat) : Int)) (y_quoI _ _ _ _ rfl ((b + 7 : Nat) : Int) 8 _ rfl rfl (by decide) (tpw2 b hb)) ?_
 simp only [Act.put, pu]
 refine pw_callB (by rfl) 9 _ _ rfl Tryd.func9 (by kernel_rfl) #[.pointer (some ⟨g0, 0, none⟩), .int .i64 (((b + 7) / 8 : Nat) : Int)] rfl _ (tbytes_more g0 s (((b + 7) / 8 : Nat) : Int) _ (by omega) (by omega) r0) ?_
 intro z1005 k
 simp only [Act.put, pu]
 replace r0 := k.row r0 (by simp <;> omega)
 replace r4 := k.row r4 (by simp <;> omega)
 replace sb := sb.trans (k.below w.heap.size sb.size (by simp <;> omega))
 clear k
 refine pw_mv (by rfl) rfl rfl ?_
 simp only [Act.put, pu]
 refine pw_ext (by rfl) rfl rfl rfl ?_
 simp only [Act.put, pu]
 refine pw_ext (by rfl) rfl rfl rfl ?_
 simp only [Act.put, pu]
 refine pw_as (by rfl) rfl rfl ?_
 simp only [Act.put, pu]
 refine pw_as (by rfl) rfl rfl ?_
 simp only [Act.put, pu]
 refine pw_nil ?_
 (repeat ((fail_if_success with_reducible refine rg ?_); go_step))
 refine wp_region_pw ?_
 refine pw_mv (by rfl) rfl rfl ?_
 simp only [Act.put, pu]
 refine pw_value (by rfl) (.bool true) (exec_neq_k .i64 _ _ _ _ rfl 5 0 rfl rfl true rfl) ?_
 simp only [Act.put, pu]
 refine pw_nil ?_
 (repeat ((fail_if_success with_reducible refine rg ?_); go_step))
 refine wp_region_pw ?_
 refine pw_value (by rfl) (.agg (natC 0)) (exec_build0 _ rfl _ built_nat) ?_
 simp only [Act.put, pu]
 refine pw_mv (by rfl) rfl rfl ?_
 simp only [Act.put, pu]
 refine pw_put (by rfl) 35 _ _ rfl _ rfl r4 (natC 0) rfl (by exact size_nat) (by simp only [natC_size]) (natC_one _) ?_
 clear r4
 intro z3002 r4 k
 simp only [Act.put]
 replace sb := sb.trans (k.below w.heap.size sb.size (by simp <;> omega))
 clear k
 refine pw_as (by rfl) rfl rfl ?_
 simp only [Act.put, pu]
 refine pw_nil ?_
 go_wp2
 exact ret_row2 rfl _ rfl r4 4 _ Tryd.underlying35 (by exact size_nat) rfl _ rfl ⟨rfl, sb⟩
set_option maxRecDepth 100000 in
set_option maxHeartbeats 2000000 in
theorem nextTry_core (g0 b nb U X V : Nat) (s hd h2 tl : List UInt8) (w : World) (hb : b ≤ 256) (hnb : IntKind.i64.wrap (((b + 7 : Nat) : Int).tdiv 8) = (nb : Int)) (r0 : Row w g0 (tpC true s) 62)
  (hby : ∀ w', Row w' g0 (tpC true s) 62 → Calls Tryd.prog 9 #[.pointer (some ⟨g0, 0, none⟩), .int .i64 (nb : Nat)] w' fun e w2 => e = .returned (.tuple #[.string ⟨(hd).toArray⟩, .int .i64 0]) ∧ Row w2 g0 (tpC true tl) 62 ∧ Kept [g0] w' w2)
  (htl : ∀ w', Calls Tryd.prog 51 #[.string ⟨(hd).toArray⟩, .string { data := #[0] }] w' fun e w2 => e = .returned (.string ⟨(h2).toArray⟩) ∧ Below w'.heap.size w' w2)
  (htk : ∀ w', Calls Tryd.prog 50 #[.string ⟨(h2).toArray⟩] w' fun e w2 => e = .returned (.tuple #[.agg (natC U), .int .i64 0]) ∧ Below w'.heap.size w' w2)
  (hup : ∀ w', Calls Tryd.prog 53 #[.agg (natC U), .int .i64 ((256 - b : Nat) : Int)] w' fun e w2 => e = .returned (.agg (natC X)) ∧ Below w'.heap.size w' w2)
  (hdn : ∀ w', Calls Tryd.prog 52 #[.agg (natC X), .int .i64 ((256 - b : Nat) : Int)] w' fun e w2 => e = .returned (.agg (natC V)) ∧ Below w'.heap.size w' w2) :
  Calls Tryd.prog 34 #[.pointer (some ⟨g0, 0, none⟩), .int .i64 b] w fun e w' => e = .returned (.tuple #[.agg (natC V), .int .i64 0]) ∧ Row w' g0 (tpC true tl) 62 ∧ Kept [g0] w w' := by
 go_enter Tryd.func34, Tryd.ntmps34
 have sk := Kept.refl [g0] w
 (repeat ((fail_if_success with_reducible refine rg ?_); go_step))
 refine wp_region_pw ?_
 refine pw_new (by rfl) 35 rfl _ zero_nat ?_
 intro g4 z0 n0 r4 k
 simp only [Act.put, pu]
 have d0x4 := Nat.lt_of_lt_of_le r0.lt n0
 have b4 := Nat.le_trans sk.size n0
 clear n0
 replace r0 := k.row r0 (by simp <;> omega)
 replace sk := sk.trans k (by simp <;> omega)
 clear k
 refine pw_value (by rfl) (.int .i64 0) (fun _ => rfl) ?_
 simp only [Act.put, pu]
 refine pw_nil ?_
 (repeat ((fail_if_success with_reducible refine rg ?_); go_step))
 refine wp_region_pw ?_
 refine pw_mv (by rfl) rfl rfl ?_
 simp only [Act.put, pu]
 refine pw_mv (by rfl) rfl rfl ?_
 simp only [Act.put, pu]
 refine pw_value (by rfl) (.int .i64 ((b + 8 : Nat) : Int)) (exec_add_in _ _ _ _ rfl b 8 rfl rfl (by omega)) ?_
 simp only [Act.put, pu]
 refine pw_value (by rfl) (.int .i64 ((b + 7 : Nat) : Int)) (y_subI _ _ _ _ rfl ((b + 8 : Nat) : Int) 1 _ rfl rfl (tpw1 b hb)) ?_
 simp only [Act.put, pu]
 refine pw_value (by rfl) (.int .i64 (nb : Int)) (y_quoI _ _ _ _ rfl ((b + 7 : Nat) : Int) 8 _ rfl rfl (by decide) hnb) ?_
 simp only [Act.put, pu]
 refine pw_callE (by rfl) 9 _ _ rfl Tryd.func9 (by kernel_rfl) #[.pointer (some ⟨g0, 0, none⟩), .int .i64 (nb : Int)] rfl (hby _ r0) ?_
 clear r0
 rintro _ z1005 ⟨rfl, r0, k⟩
 refine ⟨_, rfl, ?_⟩
 simp only [Act.put, pu]
 replace r4 := k.row r4 (by simp <;> omega)
 replace sk := sk.trans k (by simp <;> omega)
 clear k
 refine pw_mv (by rfl) rfl rfl ?_
 simp only [Act.put, pu]
 refine pw_ext (by rfl) rfl rfl rfl ?_
 simp only [Act.put, pu]
 refine pw_ext (by rfl) rfl rfl rfl ?_
 simp only [Act.put, pu]
 refine pw_as (by rfl) rfl rfl ?_
 simp only [Act.put, pu]
 refine pw_as (by rfl) rfl rfl ?_
 simp only [Act.put, pu]
 refine pw_nil ?_
 (repeat ((fail_if_success with_reducible refine rg ?_); go_step))
 refine wp_region_pw ?_
 refine pw_mv (by rfl) rfl rfl ?_
 simp only [Act.put, pu]
 refine pw_value (by rfl) (.bool false) (exec_neq_k .i64 _ _ _ _ rfl 0 0 rfl rfl false rfl) ?_
 simp only [Act.put, pu]
 refine pw_nil ?_
 (repeat ((fail_if_success with_reducible refine rg ?_); go_step))
 refine wp_region_pw ?_
 refine pw_mv (by rfl) rfl rfl ?_
 simp only [Act.put, pu]
 refine pw_callB (by rfl) 51 _ _ rfl Tryd.func51 (by kernel_rfl) #[.string ⟨(hd).toArray⟩, .string { data := #[0] }] rfl _ (htl _) ?_
 intro z4001 k
 simp only [Act.put, pu]
 replace r0 := k.row r0 (by simp <;> omega)
 replace r4 := k.row r4 (by simp <;> omega)
 replace sk := sk.trans k (by simp <;> omega)
 clear k
 refine pw_callB (by rfl) 50 _ _ rfl Tryd.func50 (by kernel_rfl) #[.string ⟨(h2).toArray⟩] rfl _ (htk _) ?_
 intro z4002 k
 simp only [Act.put, pu]
 replace r0 := k.row r0 (by simp <;> omega)
 replace r4 := k.row r4 (by simp <;> omega)
 replace sk := sk.trans k (by simp <;> omega)
 clear k
 refine pw_mv (by rfl) rfl rfl ?_
 simp only [Act.put, pu]
 refine pw_ext (by rfl) rfl rfl rfl ?_
 simp only [Act.put, pu]
 refine pw_ext (by rfl) rfl rfl rfl ?_
 simp only [Act.put, pu]
 refine pw_new (by rfl) 35 rfl _ zero_nat ?_
 intro g8 z4006 n0 r8 k
 simp only [Act.put, pu]
 have d0x8 := Nat.lt_of_lt_of_le r0.lt n0
 have d4x8 := Nat.lt_of_lt_of_le r4.lt n0
 have b8 := Nat.le_trans sk.size n0
 clear n0
 replace r0 := k.row r0 (by simp <;> omega)
 replace r4 := k.row r4 (by simp <;> omega)
 replace sk := sk.trans k (by simp <;> omega)
 clear k
 refine pw_put (by rfl) 35 _ _ rfl _ rfl r8 (natC U) rfl (by exact size_nat) (by simp only [natC_size]) (natC_one _) ?_
 clear r8
 intro z4007 r8 k
 simp only [Act.put]
 replace r0 := k.row r0 (by simp <;> omega)
 replace r4 := k.row r4 (by simp <;> omega)
 replace sk := sk.trans k (by simp <;> omega)
 clear k
 refine pw_as (by rfl) rfl rfl ?_
 simp only [Act.put, pu]
 refine pw_nil ?_
 (repeat ((fail_if_success with_reducible refine rg ?_); go_step))
 refine wp_region_pw ?_
 refine pw_mv (by rfl) rfl rfl ?_
 simp only [Act.put, pu]
 refine pw_value (by rfl) (.int .i64 ((256 - b : Nat) : Int)) (y_subI _ _ _ _ rfl 256 (b : Int) _ rfl rfl (tpw3 b hb)) ?_
 simp only [Act.put, pu]
 refine pw_as (by rfl) rfl rfl ?_
 simp only [Act.put, pu]
 refine pw_nil ?_
 (repeat ((fail_if_success with_reducible refine rg ?_); go_step))
 refine wp_region_pw ?_
 refine pw_loadm (by rfl) 35 _ rfl _ 0 rfl r8.r _ (part_all _) _ Tryd.underlying35 rfl size_nat ?_
 simp only [Act.put, pu]
 refine pw_mv (by rfl) rfl rfl ?_
 simp only [Act.put, pu]
 refine pw_callB (by rfl) 53 _ _ rfl Tryd.func53 (by kernel_rfl) #[.agg (natC U), .int .i64 ((256 - b : Nat) : Int)] rfl _ (hup _) ?_
 intro z6002 k
 simp only [Act.put, pu]
 replace r0 := k.row r0 (by simp <;> omega)
 replace r4 := k.row r4 (by simp <;> omega)
 replace r8 := k.row r8 (by simp <;> omega)
 replace sk := sk.trans k (by simp <;> omega)
 clear k
 refine pw_mv (by rfl) rfl rfl ?_
 simp only [Act.put, pu]
 refine pw_callB (by rfl) 52 _ _ rfl Tryd.func52 (by kernel_rfl) #[.agg (natC X), .int .i64 ((256 - b : Nat) : Int)] rfl _ (hdn _) ?_
 intro z6004 k
 simp only [Act.put, pu]
 replace r0 := k.row r0 (by simp <;> omega)
 replace r4 := k.row r4 (by simp <;> omega)
 replace r8 := k.row r8 (by simp <;> omega)
 replace sk := sk.trans k (by simp <;> omega)
 clear k
 refine pw_put (by rfl) 35 _ _ rfl _ rfl r4 (natC V) rfl (by exact size_nat) (by simp only [natC_size]) (natC_one _) ?_
 clear r4
 intro z6005 r4 k
 simp only [Act.put]
 replace r0 := k.row r0 (by simp <;> omega)
 replace r8 := k.row r8 (by simp <;> omega)
 replace sk := sk.trans k (by simp <;> omega)
 clear k
 refine pw_value (by rfl) (.int .i64 0) (fun _ => rfl) ?_
 simp only [Act.put, pu]
 refine pw_nil ?_
 go_wp2
 exact ret_row2 rfl _ rfl r4 4 _ Tryd.underlying35 (by exact size_nat) rfl _ rfl ⟨rfl, r0, sk⟩
theorem nextTry_ok (g0 b : Nat) (s : List UInt8) (w : World) (hb : b ≤ 256) (hf : (b + 7) / 8 ≤ s.length) (r0 : Row w g0 (tpC true s) 62) :
  Calls Tryd.prog 34 #[.pointer (some ⟨g0, 0, none⟩), .int .i64 b] w fun e w' => e = .returned (.tuple #[.agg (natC (natB (s.take ((b + 7) / 8)) % 2 ^ b)), .int .i64 0]) ∧ Row w' g0 (tpC true (s.drop ((b + 7) / 8))) 62 ∧ Kept [g0] w w' := by
 have hnb := tpw2 b hb
 generalize (b + 7) / 8 = nb at *
 have hl32 : (s.take nb).length ≤ 32 := by
  have h1 : (nb : Int) ≤ 32 := by
   rw [← hnb, tpw2 b hb]
   omega
  rw [List.length_take]
  omega
 have htl := fun w' => trimLeft_any (s.take nb) w'
 have htk := fun w' => ntake_any ⟨(trimL (s.take nb)).toArray⟩ w'
 obtain ⟨e1, e2⟩ := take_trim (s.take nb) hl32
 rw [e1, e2] at htk
 have hup := fun w' => nup_any (natB (s.take nb)) ((256 - b : Nat) : Int) w'
 rw [Int.toNat_natCast, ← natC_full (natB (s.take nb) * 2 ^ (256 - b))] at hup
 have hdn := fun w' => ndown_any (natB (s.take nb) * 2 ^ (256 - b) % 2 ^ 256) ((256 - b : Nat) : Int) w' (Nat.mod_lt _ (Nat.two_pow_pos _))
 rw [Int.toNat_natCast, updown _ _ hb] at hdn
 exact nextTry_core g0 b nb (natB (s.take nb)) (natB (s.take nb) * 2 ^ (256 - b) % 2 ^ 256) (natB (s.take nb) % 2 ^ b) s (s.take nb) (trimL (s.take nb)) (s.drop nb) w hb hnb r0 (fun w' h => tbytes_ok g0 s nb w' hf h) htl htk hup hdn
end Go.Proofs.YtlacmkliofnjcaaDoor
