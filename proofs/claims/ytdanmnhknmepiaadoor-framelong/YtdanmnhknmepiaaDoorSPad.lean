/- The document's padded. -/
import Derived.Test.YtdanmnhknmepiaaDoorSApp
namespace Go.Proofs.YtdanmnhknmepiaaDoor
open Go.RowKit
set_option linter.unusedVariables false
theorem OB.form {w : World} {base : Nat} {v : Value} {l : List UInt8} (h : OB w base v l) : ∃ q c, v = .slice q l.length c := by
 rcases h with ⟨rfl, rfl⟩ | ⟨g, cap, cur, fr, rfl, _⟩
 ·exact ⟨none, 0, rfl⟩
 ·exact ⟨_, _, rfl⟩
theorem bnew_one (w : World) (n : Nat) (b : UInt8) (h : b.toNat = n) (t : TypeId) : ∀ j, j < 1 → (w.alloc (.cells #[.int .u8 (n : Nat)] t)).cell? ((⟨w.heap.size, 0, none⟩ : Addr).add j) = some (.int .u8 (bf [b] j : Nat)) := by
 intro j hj
 obtain rfl : j = 0 := by omega
 subst h
 rw [Addr.add_mid, (Row.new w _ _).cell]
 rfl
theorem OB.grown {B : Nat} {a w w' : World} {base : Nat} {v : Value} {l : List UInt8} (hb : Below B a w) (hown : OB w base v l) (hg : w.grownBy w' v.ownBlock) (hB : B ≤ w.heap.size) (hbb : B ≤ base) : Below B a w' :=
 hb.grown hg hB fun k hk => Nat.le_trans hbb (hown.lt k hk).1
section
variable {P : Program} {o : Oper} {ρ : Operand → Value}
theorem x_ge (t : TypeId) (x y : Operand) (u : TypeId) (ho : o.op = .binOp .geq t x y u) (n m : Int) (hx : ρ x = .int .i64 n) (hy : ρ y = .int .i64 m) (b : Bool) (hb : decide (m ≤ n) = b) (w : World) :
  (execOp ρ o).run P w = .ok (.value (.bool b)) w := by
 subst hb
 unfold execOp
 simp only [ho, hx, hy]
 simp [go_sem]
theorem x_neI (t : TypeId) (x y : Operand) (u : TypeId) (ho : o.op = .binOp .neq t x y u) (k : IntKind) (n m : Int) (hx : ρ x = .int k n) (hy : ρ y = .int k m) (b : Bool) (hb : decide (n = m) = !b) (w : World) :
  (execOp ρ o).run P w = .ok (.value (.bool b)) w := by
 unfold execOp
 simp only [ho, hx, hy]
 simp [eqGuard, go_sem]
 cases b <;> simp at hb <;> simp [hb]
theorem xi_subZ (t : TypeId) (x y : Operand) (u : TypeId) (ho : o.op = .binOp .sub t x y u) (n m r : Int) (hx : ρ x = .int .i64 n) (hy : ρ y = .int .i64 m) (hr : n - m = r) (h1 : -9223372036854775808 ≤ r) (h2 : r < 9223372036854775808) (w : World) :
  (execOp ρ o).run P w = .ok (.value (.int .i64 r)) w := by
 subst hr
 unfold execOp
 simp only [ho, hx, hy]
 simp [go_sem]
 rw [IntKind.wrap_i64]
 omega
end
/-- The bytes so far: zeros, and the count. -/
def pz (l : List UInt8) (k : Nat) : List UInt8 := l ++ 128 :: List.replicate k 0
def pe (l : List UInt8) (i : Nat) : List UInt8 := l ++ 128 :: (List.replicate (zs l.length) 0 ++ (be8 (8 * l.length)).take i)
theorem pz_length (l : List UInt8) (k : Nat) : (pz l k).length = l.length + 1 + k := by simp [pz]; omega
theorem pz_succ (l : List UInt8) (k : Nat) : pz l k ++ [0] = pz l (k + 1) := by
 unfold pz
 rw [List.append_assoc, List.cons_append, ← List.replicate_succ']
theorem pe_zero (l : List UInt8) : pe l 0 = pz l (zs l.length) := by unfold pe pz; rw [List.take_zero, List.append_nil]
theorem pe_all (l : List UInt8) : pe l 8 = l ++ tl l.length := by
 unfold pe tl
 rw [List.take_of_length_le (by rw [be8_length]; exact Nat.le_refl _)]
theorem pe_length (l : List UInt8) (i : Nat) (h : i ≤ 8) : (pe l i).length = l.length + 1 + zs l.length + i := by
 simp [pe, be8_length]; omega
theorem pe_succ (l : List UInt8) (i : Nat) (h : i < 8) : pe l i ++ [UInt8.ofNat (8 * l.length / 2 ^ (8 * (7 - i)) % 256)] = pe l (i + 1) := by
 have e : (be8 (8 * l.length)).take (i + 1) = (be8 (8 * l.length)).take i ++ [UInt8.ofNat (8 * l.length / 2 ^ (8 * (7 - i)) % 256)] := by
  rw [List.take_succ_eq_append_getElem (by rw [be8_length]; exact h)]
  simp [be8]
 unfold pe
 rw [e, List.append_assoc, List.cons_append, List.append_assoc]
set_option maxRecDepth 100000 in
set_option maxHeartbeats 2000000 in
theorem rpad_any (l : List UInt8) (w : World) (hl : l.length < 1099511627776) :
  Calls Tryd.prog 38 #[.string ⟨l.toArray⟩] w fun e w' => ∃ v, e = .returned v ∧ OB w' w.heap.size v (l ++ tl l.length) ∧ Below w.heap.size w w' := by
 have hsz : (⟨l.toArray⟩ : ByteArray).size = l.length := by simp [ByteArray.size]
 have hz64 : zs l.length < 64 := by unfold zs; omega
 have hzd : ∀ k, k < zs l.length → (l.length + 1 + k) % 64 ≠ 56 := by unfold zs; omega
 have hze : (l.length + 1 + zs l.length) % 64 = 56 := by unfold zs; omega
 go_enter Tryd.func38, Tryd.ntmps38
 (repeat ((fail_if_success with_reducible refine rg ?_); go_step))
 apply wp_region_mixp [] [_] trivial List.nodup_nil
 ·intro p
  refine mx_val (.slice none 0 0) (fun _ => rfl) ?_
  simp only [Act.put, pu]
  refine mx_end ?_
  intro w2 hkw hrw hnew hdis
  have sb := hkw.below w.heap.size (Nat.le_refl _) (by simp)
  clear hkw hrw hnew hdis
  (repeat ((fail_if_success with_reducible refine rg ?_); go_step))
  refine wp_region_pw ?_
  refine pw_move (by rfl) (.inl rfl) rfl ?_
  simp only [Act.put, pu]
  refine pw_conv (by rfl) _ rfl l rfl w.heap.size sb.size (by unfold maxLen; omega) ?_
  intro v6 w3 own6 bb
  replace sb := below_on sb (Nat.le_refl _) bb
  clear bb
  simp only [Act.put, pu]
  refine pw_lit1 (by rfl) _ rfl 128 rfl ?_
  have sz := sb.size
  replace own6 := own6.alloc (.cells #[.int .u8 (128 : Nat)] 5)
  have hnw := bnew_one w3 128 128 rfl 5
  replace sb := sb.alloc sb.size (.cells #[.int .u8 (128 : Nat)] 5)
  simp only [Act.put, pu]
  refine pw_app (by rfl) _ _ rfl w.heap.size v6 l [128] rfl own6 ⟨w3.heap.size, 0, none⟩ 1 1 rfl rfl hnw (by omega) sb.size ?_
  intro v8 w4 own8 gr
  replace sb := OB.grown sb own6 gr sb.size (Nat.le_refl _)
  clear own6 gr hnw sz
  simp only [Act.put, pu]
  refine pw_move (by rfl) (.inr rfl) rfl ?_
  simp only [Act.put, pu]
  refine pw_nil ?_
  have H0 : OB w4 w.heap.size v8 (pz l 0) := own8
  have H1 := sb
  clear own8 sb
  go_wp2_with fail
  go_loopg [3] (zs l.length) (fun g s3 wr => ∃ k : Nat, k + g = zs l.length ∧ OB wr w.heap.size s3 (pz l k) ∧ Below w.heap.size w wr)
  case atStart => exact ⟨0, by omega, H0, H1⟩
  case round =>
   obtain ⟨k, hk, own, sb⟩ := hrel
   clear H0 H1
   obtain ⟨q, c, rfl⟩ := own.form
   have hlk := pz_length l k
   cases gk with
   | zero =>
    obtain rfl : k = zs l.length := by omega
    clear hk
    (repeat ((fail_if_success with_reducible refine rg ?_); go_step))
    refine wp_region_qp ?_
    refine qw_move (by rfl) rfl rfl ?_
    simp only [Act.put, pu]
    refine qw_value (by rfl) (.int .i64 (l.length + 1 + zs l.length : Nat)) (fun w' => (x_lenL _ _ rfl q _ c rfl Tryd.underlying35 w').trans (by rw [hlk])) ?_
    simp only [Act.put, pu]
    refine qw_value (by rfl) (.int .i64 ((l.length + 1 + zs l.length) % 64 : Nat)) (exec_rem_i _ _ _ _ rfl (l.length + 1 + zs l.length) 64 rfl rfl (by omega)) ?_
    simp only [Act.put, pu]
    refine qw_value (by rfl) (.bool false) (x_neI _ _ _ _ rfl .i64 ((l.length + 1 + zs l.length) % 64 : Nat) 56 rfl rfl false (decide_eq_true (by omega))) ?_
    simp only [Act.put, pu]
    refine qw_nil ?_
    intro w5 hqb
    replace own := own.belowAll hqb
    replace sb := below_on sb (Nat.le_refl _) hqb
    clear hqb
    have H0 : OB w5 w.heap.size (.slice q (pz l (zs l.length)).length c) (pe l 0) := by rw [pe_zero]; exact own
    have H1 := sb
    clear own sb hlk
    go_wp2_with fail
    go_loopg [3, 4] 8 (fun g s3 s4 wr => ∃ i : Nat, i + g = 8 ∧ s4 = .int .i64 (7 - (i : Int)) ∧ OB wr w.heap.size s3 (pe l i) ∧ Below w.heap.size w wr)
    case atStart => exact ⟨0, by omega, rfl, H0, H1⟩
    case round =>
     obtain ⟨i, hi, rfl, own, sb⟩ := hrel
     clear H0 H1
     obtain ⟨q, c, rfl⟩ := own.form
     cases gk with
     | zero =>
      obtain rfl : i = 8 := by omega
      clear hi
      (repeat ((fail_if_success with_reducible refine rg ?_); go_step))
      refine wp_region_qp ?_
      refine qw_move (by rfl) rfl rfl ?_
      simp only [Act.put, pu]
      refine qw_value (by rfl) (.bool false) (x_ge _ _ _ _ rfl (7 - (8 : Nat)) 0 rfl rfl false rfl) ?_
      simp only [Act.put, pu]
      refine qw_nil ?_
      intro w6 hqb
      replace own := own.belowAll hqb
      replace sb := below_on sb (Nat.le_refl _) hqb
      clear hqb
      rw [pe_all] at own
      go_wp2
      go_ret
      exact ⟨_, rfl, by rw [pe_all]; exact own, sb⟩
     | succ g =>
      have e7 : (7 : Int) - (i : Int) = ((7 - i : Nat) : Int) := by omega
      rw [e7]
      have hdv : 8 * l.length / 2 ^ (8 * (7 - i)) < 9223372036854775808 := Nat.lt_of_le_of_lt (Nat.div_le_self _ _) (by omega)
      (repeat ((fail_if_success with_reducible refine rg ?_); go_step))
      refine wp_region_qp ?_
      refine qw_move (by rfl) rfl rfl ?_
      simp only [Act.put, pu]
      refine qw_value (by rfl) (.bool true) (x_ge _ _ _ _ rfl (7 - i : Nat) 0 rfl rfl true (decide_eq_true (by omega))) ?_
      simp only [Act.put, pu]
      refine qw_nil ?_
      intro wr5 hqb
      replace own := own.belowAll hqb
      replace sb := below_on sb (Nat.le_refl _) hqb
      clear hqb
      (repeat ((fail_if_success with_reducible refine rg ?_); go_step))
      refine wp_region_pw ?_
      refine pw_move (by rfl) (.inl rfl) rfl ?_
      simp only [Act.put, pu]
      refine pw_move (by rfl) (.inl rfl) rfl ?_
      simp only [Act.put, pu]
      refine pw_value (by rfl) (.int .i64 (l.length : Nat)) (fun w' => (x_lenS _ _ rfl ⟨l.toArray⟩ rfl Tryd.underlying9 w').trans (by rw [hsz])) ?_
      simp only [Act.put, pu]
      refine pw_value (by rfl) (.int .i64 (8 * l.length : Nat)) (xi_mul _ _ _ _ rfl 8 l.length _ rfl rfl rfl (by omega)) ?_
      simp only [Act.put, pu]
      refine pw_move (by rfl) (.inl rfl) rfl ?_
      simp only [Act.put, pu]
      refine pw_value (by rfl) (.int .i64 (8 * (7 - i) : Nat)) (xi_mul _ _ _ _ rfl 8 (7 - i) _ rfl rfl rfl (by omega)) ?_
      simp only [Act.put, pu]
      refine pw_value (by rfl) (.int .i64 (8 * l.length / 2 ^ (8 * (7 - i)) : Nat)) (xi_shr _ _ _ _ rfl (8 * l.length) (8 * (7 - i)) .i64 rfl rfl (by omega)) ?_
      simp only [Act.put, pu]
      refine pw_value (by rfl) (.int .i64 (8 * l.length / 2 ^ (8 * (7 - i)) % 256 : Nat)) (xi_and _ _ _ _ rfl (8 * l.length / 2 ^ (8 * (7 - i))) 255 _ rfl rfl hdv (by decide) (Nat.and_two_pow_sub_one_eq_mod _ 8)) ?_
      simp only [Act.put, pu]
      refine pw_value (by rfl) (.int .u8 (8 * l.length / 2 ^ (8 * (7 - i)) % 256 : Nat)) (x_conv _ _ _ rfl .i64 .u8 Tryd.underlying3 Tryd.underlying5 ((8 * l.length / 2 ^ (8 * (7 - i)) % 256 : Nat) : Int) _ rfl (wrp8 _ _ (Nat.mod_mod _ _))) ?_
      simp only [Act.put, pu]
      refine pw_lit1 (by rfl) _ rfl (8 * l.length / 2 ^ (8 * (7 - i)) % 256) rfl ?_
      have sz := sb.size
      replace own := own.alloc (.cells #[.int .u8 (8 * l.length / 2 ^ (8 * (7 - i)) % 256 : Nat)] 5)
      have hnw := bnew_one wr5 (8 * l.length / 2 ^ (8 * (7 - i)) % 256) (UInt8.ofNat (8 * l.length / 2 ^ (8 * (7 - i)) % 256)) (UInt8.toNat_ofNat_of_lt' (Nat.mod_lt _ (by decide))) 5
      replace sb := sb.alloc sb.size (.cells #[.int .u8 (8 * l.length / 2 ^ (8 * (7 - i)) % 256 : Nat)] 5)
      simp only [Act.put, pu]
      refine pw_app (by rfl) _ _ rfl w.heap.size (.slice q (pe l i).length c) (pe l i) [UInt8.ofNat (8 * l.length / 2 ^ (8 * (7 - i)) % 256)] rfl own ⟨wr5.heap.size, 0, none⟩ 1 1 rfl rfl hnw (by rw [pe_length _ _ (by omega)]; omega) sb.size ?_
      intro v8 w6 own8 gr
      replace sb := OB.grown sb own gr sb.size (Nat.le_refl _)
      rw [pe_succ l i (by omega)] at own8
      clear own gr hnw sz
      simp only [Act.put, pu]
      refine pw_move (by rfl) (.inr rfl) rfl ?_
      simp only [Act.put, pu]
      refine pw_nil ?_
      (repeat ((fail_if_success with_reducible refine rg ?_); go_step))
      refine wp_region_qp ?_
      refine qw_move (by rfl) rfl rfl ?_
      simp only [Act.put, pu]
      refine qw_value (by rfl) (.int .i64 (7 - ((i + 1 : Nat) : Int))) (xi_subZ _ _ _ _ rfl (7 - i : Nat) 1 _ rfl rfl (by omega) (by omega) (by omega)) ?_
      simp only [Act.put, pu]
      refine qw_asg (by rfl) rfl rfl ?_
      simp only [Act.put, pu]
      refine qw_nil ?_
      intro w8 hqb
      replace own8 := own8.belowAll hqb
      replace sb := below_on sb (Nat.le_refl _) hqb
      clear hqb
      go_wp2
      go_roundg g
      case measure => omega
      case rel => exact ⟨i + 1, by omega, rfl, own8, sb⟩
   | succ g =>
    have hkz := hzd k (by omega)
    (repeat ((fail_if_success with_reducible refine rg ?_); go_step))
    refine wp_region_qp ?_
    refine qw_move (by rfl) rfl rfl ?_
    simp only [Act.put, pu]
    refine qw_value (by rfl) (.int .i64 (l.length + 1 + k : Nat)) (fun w' => (x_lenL _ _ rfl q _ c rfl Tryd.underlying35 w').trans (by rw [hlk])) ?_
    simp only [Act.put, pu]
    refine qw_value (by rfl) (.int .i64 ((l.length + 1 + k) % 64 : Nat)) (exec_rem_i _ _ _ _ rfl (l.length + 1 + k) 64 rfl rfl (by omega)) ?_
    simp only [Act.put, pu]
    refine qw_value (by rfl) (.bool true) (x_neI _ _ _ _ rfl .i64 ((l.length + 1 + k) % 64 : Nat) 56 rfl rfl true (decide_eq_false (by omega))) ?_
    simp only [Act.put, pu]
    refine qw_nil ?_
    intro wr5 hqb
    replace own := own.belowAll hqb
    replace sb := below_on sb (Nat.le_refl _) hqb
    clear hqb
    (repeat ((fail_if_success with_reducible refine rg ?_); go_step))
    refine wp_region_pw ?_
    refine pw_move (by rfl) (.inl rfl) rfl ?_
    simp only [Act.put, pu]
    refine pw_lit1 (by rfl) _ rfl 0 rfl ?_
    have sz := sb.size
    replace own := own.alloc (.cells #[.int .u8 (0 : Nat)] 5)
    have hnw := bnew_one wr5 0 0 rfl 5
    replace sb := sb.alloc sb.size (.cells #[.int .u8 (0 : Nat)] 5)
    simp only [Act.put, pu]
    refine pw_app (by rfl) _ _ rfl w.heap.size (.slice q (pz l k).length c) (pz l k) [0] rfl own ⟨wr5.heap.size, 0, none⟩ 1 1 rfl rfl hnw (by rw [pz_length]; omega) sb.size ?_
    intro v8 w6 own8 gr
    replace sb := OB.grown sb own gr sb.size (Nat.le_refl _)
    rw [pz_succ] at own8
    clear own gr hnw sz
    simp only [Act.put, pu]
    refine pw_move (by rfl) (.inr rfl) rfl ?_
    simp only [Act.put, pu]
    refine pw_nil ?_
    go_wp2
    go_roundg g
    case measure => omega
    case rel => exact ⟨k + 1, by omega, own8, sb⟩
 ·rfl
end Go.Proofs.YtdanmnhknmepiaaDoor
