/- sha's New, closing, a Hash's Sum, and Sum. -/
import Derived.Test.YtdanmnhknmepiaaDoorSAdd
import Derived.Laws.MakeOwn
namespace Go.Proofs.YtdanmnhknmepiaaDoor
open Go.RowKit
set_option linter.unusedVariables false
theorem sinfo_b8 : ∃ i, Tryd.prog.info? 5 = some i ∧ i.zero = some (.int .u8 0) ∧ i.size = 1 ∧ i.bytes = 1 := by
 have h : (Tryd.prog.info? 5).map (fun i => (i.zero, i.size, i.bytes)) = some (some (.int .u8 0), 1, 1) := by kernel_rfl
 cases hq : Tryd.prog.info? 5 with
 | none => simp [hq] at h
 | some i =>
  simp [hq] at h
  exact ⟨i, rfl, h.1, h.2.1, h.2.2⟩
theorem made_b8 (n : Nat) : madeCells #[.int .u8 0] n = rC .u8 n fun _ => 0 := by
 apply Array.ext_getElem?
 intro i
 by_cases hi : i < n
 ·rw [rC_get _ _ _ _ hi]
  unfold madeCells
  simp [hi, Nat.mod_one]
 ·rw [Array.getElem?_eq_none (by rw [size_madeCells]; omega), Array.getElem?_eq_none (by rw [rC_size]; omega)]
theorem built_new : Tryd.prog.built 56 [(0, .bool true), (1, .agg (rC .u32 8 ivf))] = some (hC true ivf (fun _ => 0) 0) := by kernel_rfl
section
variable {P : Program} {olds : Olds} {p : Nat → Nat} {W : World} {F : Act → Ct → Prop} {n : Nat} {l : List Oper} {pl : List Sp} {a : Act} {ct : Ct} {o : Oper} {ρ : Operand → Value}
/-- Bytes that are made. -/
theorem mx_makeB (x y : Operand) (ho : o.op = .makeSlice 35 x y) (k : IntKind) (m : Nat) (hx : a.eval x = .int k m) (hy : a.eval y = .int k m) (hm : m ≤ 16777216)
  (h : MX Tryd.prog olds p W F (n + 1) l pl (a.put o.dst (.slice (some ⟨p n, 0, none⟩) m m)) (ctSet ct (2 * n + 1) (5, rC .u8 m fun _ => 0))) :
  MX Tryd.prog olds p W F n (o :: l) ((fun q => .slice (some ⟨q n, 0, none⟩) m m, [], some (5, rC .u8 m fun _ => 0), []) :: pl) a ct :=
 mx_made (fun g => .slice (some ⟨g, 0, none⟩) m m) 5 _ (fun w => by
  obtain ⟨i, h1, h2, h3, h4⟩ := sinfo_b8
  have hr := run_makeSlice (P := Tryd.prog) w 35 5 i (.int .u8 0) Tryd.underlying35 h1 h2 k k (m : Int) (m : Int) (by omega) (by omega) (by rw [Int.toNat_natCast, h3]; omega) (by rw [h4]; omega) (by omega)
  rw [Int.toNat_natCast, h3, Nat.mul_one, show (Value.int IntKind.u8 0).cells = #[.int .u8 0] from rfl, made_b8] at hr
  unfold execOp
  simp only [ho, hx, hy, Sem.run_bind, hr, Result.andThen_ok]
  rfl) h
/-- The place of an element. -/
theorem x_idxS (t : TypeId) (x y : Operand) (ho : o.op = .indexAddr t x y) (g off len cap : Nat) (hx : ρ x = .slice (some ⟨g, off, none⟩) len cap) (i : Nat) (hy : ρ y = .int .i64 i) (hi : i < len) (e : TypeId) (hu : P.underlying t = some (.slice e))
  (hz : ∀ w, (sizeOf e).run P w = .ok 1 w) (r : Nat) (hr : off + i = r) (w : World) : (execOp ρ o).run P w = .ok (.value (.pointer (some ⟨g, r, none⟩))) w := by
 subst hr
 have := exec_index_s (P := P) (o := o) t x y ho g off len cap hx i hy hi e hu 1 hz w
 rw [Nat.mul_one] at this
 exact this
theorem x_idxA (t : TypeId) (x y : Operand) (ho : o.op = .indexAddr t x y) (g off : Nat) (hx : ρ x = .pointer (some ⟨g, off, none⟩)) (i len : Nat) (hy : ρ y = .int .i64 i) (hi : i < len) (e : TypeId) (hu : P.underlying t = some (.array len e))
  (hz : ∀ w, (sizeOf e).run P w = .ok 1 w) (r : Nat) (hr : off + i = r) (w : World) : (execOp ρ o).run P w = .ok (.value (.pointer (some ⟨g, r, none⟩))) w := by
 subst hr
 have := exec_index_g (P := P) (o := o) t x y ho g off hx i len hy hi e hu 1 hz w
 rw [Nat.mul_one] at this
 exact this
/-- Bytes as a text. -/
theorem x_str (x : Operand) (ho : o.op = .convert 35 9 x) (g off cap n : Nat) (l : List UInt8) (hx : ρ x = .slice (some ⟨g, off, none⟩) n cap) (hn : l.length = n) {cs : Array Value} {t : TypeId} (w : World) (hr : RowR w g cs t)
  (hc : ∀ j, j < l.length → cs[off + j]? = some (.int .u8 (bf l j : Nat))) : (execOp ρ o).run Tryd.prog w = .ok (.value (.string ⟨l.toArray⟩)) w := by
 subst hn
 have h := run_convert_bytes_back (P := Tryd.prog) w 35 9 5 ⟨g, off, none⟩ cap l Tryd.underlying35 Tryd.underlying5 Tryd.underlying9 (fun j hj => by
  rw [Addr.add_mid, hr.cell, hc j hj]
  unfold bf
  rw [List.getD_eq_getElem?_getD, List.getElem?_eq_getElem hj]
  rfl)
 unfold execOp
 simp only [ho, hx, Sem.run_bind, h, Result.andThen_ok]
 rfl
end
set_option maxRecDepth 100000 in
set_option maxHeartbeats 2000000 in
theorem hnew_any (w : World) :
  Calls Tryd.prog 30 #[] w fun e w' => ∃ g, e = .returned (.pointer (some ⟨g, 0, none⟩)) ∧ w.heap.size ≤ g ∧ Row w' g (hC true (sw []) (fun _ => 0) 0) 56 ∧ Below w.heap.size w w' := by
 go_enter Tryd.func30, Tryd.ntmps30
 (repeat ((fail_if_success with_reducible refine rg ?_); go_step))
 apply wp_region_mixp [] [_] trivial List.nodup_nil
 ·intro p
  refine mx_val (.pointer none) (fun _ => rfl) ?_
  simp only [Act.put, List.setIfInBounds_toArray, List.set_cons_zero]
  refine mx_end ?_
  intro w2 hkw hrw hnew hdis
  have sb := hkw.below w.heap.size (Nat.le_refl _) (by simp)
  clear hkw hrw hnew hdis
  (repeat ((fail_if_success with_reducible refine rg ?_); go_step))
  apply wp_region_mixp [] [_, _, _, _] trivial List.nodup_nil
  ·intro p
   refine mx_val (.agg (rC .u32 8 ivf)) (exec_build _ _ rfl _ rfl _ (built_8w ivf)) ?_
   simp only [Act.put, pu]
   refine mx_val (.agg (hC true ivf (fun _ => 0) 0)) (exec_build _ _ rfl _ rfl _ built_new) ?_
   simp only [Act.put, pu]
   refine mx_box 56 _ rfl _ rfl ?_
   simp only [Act.put, pu]
   refine mx_asgP 2 (fun g => .pointer (some ⟨g, 0, none⟩)) (.inl rfl) (by omega) rfl ?_
   simp only [Act.put, List.setIfInBounds_toArray, List.set_cons_zero]
   refine mx_end ?_
   intro w3 hkw hrw hnew hdis
   have n3 := hnew 2 rfl
   have zr3 : Row w3 (p 2) (hC true ivf (fun _ => 0) 0) 56 := hrw 5 (56, hC true ivf (fun _ => 0) 0) rfl
   have b3 := Nat.le_trans sb.size n3
   replace sb := sb.trans (hkw.below w.heap.size sb.size (by simp <;> omega))
   clear hkw hrw hnew hdis n3
   generalize p 2 = g3 at *
   have r3 := zr3
   clear zr3
   go_wp2
   go_ret
   exact ⟨g3, rfl, b3, r3, sb⟩
  ·rfl
 ·rfl
theorem hs_nil : HS [] fun _ => 0 := ⟨fun i hi => by simp at hi, fun _ => by decide⟩
/-- The bytes behind a text, one by one. -/
theorem tl_0 (n : Nat) : bf (tl n) 0 = 128 := rfl
theorem tl_z (n j : Nat) (h : j < zs n) : bf (tl n) (1 + j) = 0 := by
 unfold bf tl
 rw [List.getD_eq_getElem?_getD, Nat.add_comm 1 j, List.getElem?_cons_succ, List.getElem?_append_left (by simpa using h), List.getElem?_replicate, if_pos h]
 rfl
theorem tl_e (n k : Nat) (h : k < 8) : bf (tl n) (1 + zs n + k) = 8 * n / 2 ^ (8 * (7 - k)) % 256 := by
 unfold bf tl be8
 rw [List.getD_eq_getElem?_getD, show 1 + zs n + k = (zs n + k) + 1 by omega, List.getElem?_cons_succ, List.getElem?_append_right (by simp), List.length_replicate, Nat.add_sub_cancel_left, List.getElem?_map, List.getElem?_range h]
 show (UInt8.ofNat _).toNat = _
 rw [UInt8.toNat_ofNat_of_lt' (Nat.mod_lt _ (by decide))]
theorem tl_first (n m : Nat) (hm : m = 9 + zs n) : (rC .u8 m fun _ => 0).setIfInBounds 0 (.int .u8 ((128 : Nat) : Int)) = rC .u8 m (upto (bf (tl n)) (1 + zs n)) := by
 refine rC_put _ _ _ _ _ _ fun j hj => ?_
 unfold upto
 by_cases h0 : j = 0
 ·subst h0; rw [if_pos rfl, if_pos (by omega), tl_0]
 ·rw [if_neg h0]
  by_cases h : j < 1 + zs n
  ·rw [if_pos h, show j = 1 + (j - 1) by omega, tl_z n _ (by omega)]
  ·rw [if_neg h]
/-- What closing holds on to. -/
structure ClH (wr w : World) (g0 g14 m c k : Nat) (v B : Nat → Nat) : Prop where
 r0 : Row wr g0 (hC true v B c) 56
 r : Row wr g14 (rC .u8 m (upto (bf (tl c)) (1 + zs c + k))) 5
 below : Below w.heap.size w wr
set_option maxRecDepth 100000 in
set_option maxHeartbeats 2000000 in
theorem closing_any (v B : Nat → Nat) (c g0 : Nat) (w : World) (hc : c < 1152921504606846976) (r0 : Row w g0 (hC true v B c) 56) :
  Calls Tryd.prog 37 #[.pointer (some ⟨g0, 0, none⟩)] w fun e w' => e = .returned (.string ⟨(tl c).toArray⟩) ∧ Below w.heap.size w w' := by
 have hz : (119 - c % 64) % 64 = zs c := rfl
 have hz64 : zs c < 64 := by unfold zs; omega
 have htl := tl_length c
 have hsc : 8 * c < 18446744073709551616 := by omega
 go_enter Tryd.func37, Tryd.ntmps37
 (repeat ((fail_if_success with_reducible refine rg ?_); go_step))
 apply wp_region_mixp [] [_] trivial List.nodup_nil
 ·intro p
  refine mx_val (.string ⟨#[]⟩) (fun _ => rfl) ?_
  simp only [Act.put, pu]
  refine mx_end ?_
  intro w2 hkw hrw hnew hdis
  replace r0 := hkw.row r0 (by simp <;> omega)
  have sb := hkw.below w.heap.size (Nat.le_refl _) (by simp)
  clear hkw hrw hnew hdis
  (repeat ((fail_if_success with_reducible refine rg ?_); go_step))
  apply wp_region_mixp [] [_, _, _, _, _] trivial List.nodup_nil
  ·intro p
   refine mx_move rfl rfl ?_
   simp only [Act.put, pu]
   refine mx_callK 35 _ _ rfl Tryd.func35 (by kernel_rfl) #[.pointer (some ⟨g0, 0, none⟩)] rfl _ (fun w' hk => filled_any _ _ _ _ g0 w' (hk.row r0 (by simp))) ?_
   simp only [Act.put, pu]
   refine mx_val (.int .i64 (119 - c % 64 : Nat)) (xi_sub _ _ _ _ rfl 119 (c % 64) rfl rfl (by omega) (by omega)) ?_
   simp only [Act.put, pu]
   refine mx_val (.int .i64 (zs c : Nat)) (fun w' => (exec_rem_i _ _ _ _ rfl (119 - c % 64) 64 rfl rfl (by omega) w').trans (by rw [hz])) ?_
   simp only [Act.put, pu]
   refine mx_asg rfl rfl ?_
   simp only [Act.put, pu]
   refine mx_end ?_
   intro w3 hkw hrw hnew hdis
   replace r0 := hkw.row r0 (by simp <;> omega)
   replace sb := sb.trans (hkw.below w.heap.size sb.size (by simp <;> omega))
   clear hkw hrw hnew hdis
   clear hz
   (repeat ((fail_if_success with_reducible refine rg ?_); go_step))
   apply wp_region_mixp [] [_, _, _, _, _] trivial List.nodup_nil
   ·intro p
    refine mx_move rfl rfl ?_
    simp only [Act.put, pu]
    refine mx_val (.int .i64 (1 + zs c : Nat)) (xi_add _ _ _ _ rfl 1 (zs c) rfl rfl (by omega)) ?_
    simp only [Act.put, pu]
    refine mx_val (.int .i64 (1 + zs c + 8 : Nat)) (xi_add _ _ _ _ rfl (1 + zs c) 8 rfl rfl (by omega)) ?_
    simp only [Act.put, pu]
    refine mx_makeB _ _ rfl .i64 (1 + zs c + 8) rfl rfl (by omega) ?_
    simp only [Act.put, pu]
    refine mx_asgP 3 (fun g => .slice (some ⟨g, 0, none⟩) (1 + zs c + 8) (1 + zs c + 8)) (.inl rfl) (by omega) rfl ?_
    simp only [Act.put, pu]
    refine mx_end ?_
    intro w4 hkw hrw hnew hdis
    have n14 := hnew 3 rfl
    have zr14 : Row w4 (p 3) (rC .u8 (1 + zs c + 8) fun _ => 0) 5 := hrw 7 (5, rC .u8 (1 + zs c + 8) fun _ => 0) rfl
    have d0x14 := Nat.lt_of_lt_of_le r0.lt n14
    replace r0 := hkw.row r0 (by simp <;> omega)
    have b14 := Nat.le_trans sb.size n14
    replace sb := sb.trans (hkw.below w.heap.size sb.size (by simp <;> omega))
    clear hkw hrw hnew hdis n14
    generalize p 3 = g14 at *
    have r14 := zr14
    clear zr14
    (repeat ((fail_if_success with_reducible refine rg ?_); go_step))
    apply wp_region_mixp [(g14, 5, rC .u8 (1 + zs c + 8) fun _ => 0)] [_, _, _] ⟨r14, trivial⟩ (by simp <;> omega)
    ·intro p
     refine mx_move rfl rfl ?_
     simp only [Act.put, pu]
     refine mx_val (.pointer (some ⟨g14, 0, none⟩)) (x_idxS _ _ _ rfl g14 0 (1 + zs c + 8) (1 + zs c + 8) rfl 0 rfl (by omega) _ Tryd.underlying35 Tryd.sizeOf5 0 rfl) ?_
     simp only [Act.put, pu]
     refine mx_putc 0 5 _ _ rfl (0) rfl rfl .u8 (((128 : Nat) : Int)) rfl Tryd.sizeOf5 (by rw [rC_size]; omega) (rC .u8 (1 + zs c + 8) (upto (bf (tl c)) (1 + zs c))) (tl_first c _ (by omega)) ?_
     simp only [Act.put]
     refine mx_end ?_
     intro w5 hkw hrw hnew hdis
     have zr14 : Row w5 (g14) (rC .u8 (1 + zs c + 8) (upto (bf (tl c)) (1 + zs c))) 5 := hrw 0 (5, rC .u8 (1 + zs c + 8) (upto (bf (tl c)) (1 + zs c))) rfl
     replace r0 := hkw.row r0 (by simp <;> omega)
     replace sb := sb.trans (hkw.below w.heap.size sb.size (by simp <;> omega))
     clear hkw hrw hnew hdis r14
     have r14 := zr14
     clear zr14
     (repeat ((fail_if_success with_reducible refine rg ?_); go_step))
     apply wp_region_mixp [] [_, _, _, _, _, _] trivial List.nodup_nil
     ·intro p
      refine mx_move rfl rfl ?_
      simp only [Act.put, pu]
      refine mx_val (.pointer (some ⟨g0, 0, none⟩)) (exec_nil _ rfl g0 0 rfl) ?_
      simp only [Act.put, pu]
      refine mx_val (.pointer (some ⟨g0, 73, none⟩)) (exec_field 56 _ 3 rfl g0 0 rfl _ Tryd.underlying56 _ rfl 0 Tryd.sizeOf54) ?_
      simp only [Act.put, pu]
      refine mx_loadc 54 _ rfl _ (73) rfl r0 (by simp <;> omega) (.int .u64 (c : Nat)) (hC_get _ _ _ _ 73 (by omega)) Tryd.isAgg54 ?_
      simp only [Act.put, pu]
      refine mx_val (.int .u64 (8 * c : Nat)) (x64_mul _ _ _ _ rfl 8 c _ rfl rfl rfl hsc) ?_
      simp only [Act.put, pu]
      refine mx_asg rfl rfl ?_
      simp only [Act.put, pu]
      refine mx_end ?_
      intro w6 hkw hrw hnew hdis
      replace r0 := hkw.row r0 (by simp <;> omega)
      replace r14 := hkw.row r14 (by simp <;> omega)
      replace sb := sb.trans (hkw.below w.heap.size sb.size (by simp <;> omega))
      clear hkw hrw hnew hdis
      have H0 : ClH w6 w g0 g14 (1 + zs c + 8) c 0 v B := ⟨r0, r14, sb⟩
      have HX : Hid (g0 ≠ g14 ∧ w.heap.size ≤ g14) := ⟨by omega, b14⟩
      clear r0 r14 sb b14 d0x14
      go_wp2_with fail
      go_loopg [6, 22] 8 (fun g s6 s22 wr => ∃ k : Nat, k + g = 8 ∧ s22 = .int .i64 k ∧ ClH wr w g0 g14 (1 + zs c + 8) c k v B)
      case atStart => exact ⟨0, by omega, rfl, H0⟩
      case round =>
       obtain ⟨k, hk, rfl, r0, r14, sb⟩ := hrel
       obtain ⟨x1, x2⟩ := HX.out
       clear H0
       cases gk with
       | zero =>
        obtain rfl : k = 8 := by omega
        clear hk
        (repeat ((fail_if_success with_reducible refine rg ?_); go_step))
        apply wp_region_mixp [] [_] trivial List.nodup_nil
        ·intro p
         refine mx_val (.bool false) (x_lt _ _ _ _ rfl 8 8 rfl rfl false rfl) ?_
         simp only [Act.put, pu]
         refine mx_end ?_
         intro w7 hkw hrw hnew hdis
         replace r14 := hkw.row r14 (by simp <;> omega)
         replace sb := sb.trans (hkw.below w.heap.size sb.size (by simp <;> omega))
         clear hkw hrw hnew hdis
         (repeat ((fail_if_success with_reducible refine rg ?_); go_step))
         apply wp_region_mixp [] [_, _, _] trivial List.nodup_nil
         ·intro p
          refine mx_move rfl rfl ?_
          simp only [Act.put, pu]
          refine mx_value (.string ⟨(tl c).toArray⟩) [] (fun w' hkw _ => x_str _ rfl g14 0 (1 + zs c + 8) (1 + zs c + 8) (tl c) rfl (by omega) w' (hkw.row r14 (by simp)).r (fun j hj => (rC_get _ _ _ _ (by omega)).trans (by rw [Nat.zero_add, upto_lt _ _ _ (by omega)]))) ?_
          simp only [Act.put, pu]
          refine mx_asg rfl rfl ?_
          simp only [Act.put, pu]
          refine mx_end ?_
          intro w8 hkw hrw hnew hdis
          replace sb := sb.trans (hkw.below w.heap.size sb.size (by simp <;> omega))
          clear hkw hrw hnew hdis
          go_wp2
          go_ret
          exact ⟨rfl, sb⟩
         ·rfl
        ·rfl
       | succ g =>
        have hN : bf (tl c) (1 + zs c + k) = 8 * c / 2 ^ (8 * (7 - k)) % 256 := tl_e c k (by omega)
        (repeat ((fail_if_success with_reducible refine rg ?_); go_step))
        apply wp_region_mixp [] [_] trivial List.nodup_nil
        ·intro p
         refine mx_val (.bool true) (x_lt _ _ _ _ rfl k 8 rfl rfl true (decide_eq_true (by omega))) ?_
         simp only [Act.put, pu]
         refine mx_end ?_
         intro w7 hkw hrw hnew hdis
         replace r0 := hkw.row r0 (by simp <;> omega)
         replace r14 := hkw.row r14 (by simp <;> omega)
         replace sb := sb.trans (hkw.below w.heap.size sb.size (by simp <;> omega))
         clear hkw hrw hnew hdis
         (repeat ((fail_if_success with_reducible refine rg ?_); go_step))
         apply wp_region_mixp [] [_, _] trivial List.nodup_nil
         ·intro p
          refine mx_move rfl rfl ?_
          simp only [Act.put, pu]
          refine mx_asg rfl rfl ?_
          simp only [Act.put, pu]
          refine mx_end ?_
          intro w8 hkw hrw hnew hdis
          replace r0 := hkw.row r0 (by simp <;> omega)
          replace r14 := hkw.row r14 (by simp <;> omega)
          replace sb := sb.trans (hkw.below w.heap.size sb.size (by simp <;> omega))
          clear hkw hrw hnew hdis
          (repeat ((fail_if_success with_reducible refine rg ?_); go_step))
          apply wp_region_mixp [(g14, 5, rC .u8 (1 + zs c + 8) (upto (bf (tl c)) (1 + zs c + k)))] [_, _, _, _, _, _, _, _, _, _, _, _, _] ⟨r14, trivial⟩ (by simp <;> omega)
          ·intro p
           refine mx_move rfl rfl ?_
           simp only [Act.put, pu]
           refine mx_move rfl rfl ?_
           simp only [Act.put, pu]
           refine mx_val (.int .i64 (1 + zs c : Nat)) (xi_add _ _ _ _ rfl 1 (zs c) rfl rfl (by omega)) ?_
           simp only [Act.put, pu]
           refine mx_move rfl rfl ?_
           simp only [Act.put, pu]
           refine mx_val (.int .i64 (1 + zs c + k : Nat)) (xi_add _ _ _ _ rfl (1 + zs c) k rfl rfl (by omega)) ?_
           simp only [Act.put, pu]
           refine mx_move rfl rfl ?_
           simp only [Act.put, pu]
           refine mx_move rfl rfl ?_
           simp only [Act.put, pu]
           refine mx_val (.int .i64 (7 - k : Nat)) (xi_sub _ _ _ _ rfl 7 k rfl rfl (by omega) (by omega)) ?_
           simp only [Act.put, pu]
           refine mx_val (.int .i64 (8 * (7 - k) : Nat)) (xi_mul _ _ _ _ rfl 8 (7 - k) _ rfl rfl rfl (by omega)) ?_
           simp only [Act.put, pu]
           refine mx_val (.int .u64 (8 * c / 2 ^ (8 * (7 - k)) : Nat)) (x64_shr _ _ _ _ rfl (8 * c) (8 * (7 - k)) .i64 rfl rfl (by omega)) ?_
           simp only [Act.put, pu]
           refine mx_val (.int .u8 (8 * c / 2 ^ (8 * (7 - k)) % 256 : Nat)) (x_conv _ _ _ rfl .u64 .u8 Tryd.underlying54 Tryd.underlying5 ((8 * c / 2 ^ (8 * (7 - k)) : Nat) : Int) _ rfl (wrp8 _ _ rfl)) ?_
           simp only [Act.put, pu]
           refine mx_val (.pointer (some ⟨g14, 1 + zs c + k, none⟩)) (x_idxS _ _ _ rfl g14 0 (1 + zs c + 8) (1 + zs c + 8) rfl (1 + zs c + k) rfl (by omega) _ Tryd.underlying35 Tryd.sizeOf5 _ (by omega)) ?_
           simp only [Act.put, pu]
           refine mx_putc 0 5 _ _ rfl (1 + zs c + k) rfl rfl .u8 (((8 * c / 2 ^ (8 * (7 - k)) % 256 : Nat) : Int)) rfl Tryd.sizeOf5 (by rw [rC_size]; omega) (rC .u8 (1 + zs c + 8) (upto (bf (tl c)) (1 + zs c + k + 1))) (rC_put _ _ _ _ _ _ (upto_put _ _ _ hN _)) ?_
           simp only [Act.put]
           refine mx_end ?_
           intro w9 hkw hrw hnew hdis
           have zr14 : Row w9 (g14) (rC .u8 (1 + zs c + 8) (upto (bf (tl c)) (1 + zs c + k + 1))) 5 := hrw 0 (5, rC .u8 (1 + zs c + 8) (upto (bf (tl c)) (1 + zs c + k + 1))) rfl
           replace r0 := hkw.row r0 (by simp <;> omega)
           replace sb := sb.trans (hkw.below w.heap.size sb.size (by simp <;> omega))
           clear hkw hrw hnew hdis r14
           have r14 := zr14
           clear zr14
           (repeat ((fail_if_success with_reducible refine rg ?_); go_step))
           apply wp_region_mixp [] [_, _] trivial List.nodup_nil
           ·intro p
            refine mx_val (.int .i64 (k + 1 : Nat)) (xi_add _ _ _ _ rfl k 1 rfl rfl (by omega)) ?_
            simp only [Act.put, pu]
            refine mx_move rfl rfl ?_
            simp only [Act.put, pu]
            refine mx_end ?_
            intro w10 hkw hrw hnew hdis
            replace r0 := hkw.row r0 (by simp <;> omega)
            replace r14 := hkw.row r14 (by simp <;> omega)
            replace sb := sb.trans (hkw.below w.heap.size sb.size (by simp <;> omega))
            clear hkw hrw hnew hdis
            go_wp2
            go_roundg g
            case measure => omega
            case rel => exact ⟨k + 1, by omega, rfl, r0, r14, sb⟩
           ·rfl
          ·rfl
         ·rfl
        ·rfl
     ·rfl
    ·rfl
   ·rfl
  ·rfl
 ·rfl
end Go.Proofs.YtdanmnhknmepiaaDoor
