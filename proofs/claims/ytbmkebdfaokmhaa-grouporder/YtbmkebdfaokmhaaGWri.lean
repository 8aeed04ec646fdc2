/- group's written: parameters by their digits; the three groups that are given. -/
import Derived.Test.YtbmkebdfaokmhaaGTypes
import Derived.Test.YtbmkebdfaokmhaaGDec
namespace Go.Proofs.Ytbmkebdfaokmhaa
open Go.RowKit
/-- Texts one behind the other. -/
def sxC (n : Nat) (f : Nat → List UInt8) : Array Value := Array.ofFn (n := n) fun i => .string ⟨(f i).toArray⟩
theorem sxC_get (n : Nat) (f : Nat → List UInt8) (i off : Nat) (h : i < n) (ho : off = i) : (sxC n f)[off]? = some (.string ⟨(f i).toArray⟩) := by subst ho; simp [sxC, h]
theorem info_lkx : (Try.prog.info? 58).map (fun i => (i.zero, i.size, i.bytes)) = some (some (.agg #[.int .u64 0, .int .u64 0, .int .u64 0, .int .u64 0, .int .i64 0]), 5, 40) := by kernel_rfl
theorem info_lkb : ∃ i, Try.prog.info? 58 = some i ∧ i.zero = some (.agg #[.int .u64 0, .int .u64 0, .int .u64 0, .int .u64 0, .int .i64 0]) ∧ i.size = 5 ∧ i.bytes = 40 := by
 cases hi : Try.prog.info? 58 with
 | none => have := info_lkx; rw [hi] at this; cases this
 | some i =>
  have h := info_lkx
  rw [hi] at h
  simp only [Option.map_some, Option.some.injEq, Prod.mk.injEq] at h
  exact ⟨i, rfl, h.1, h.2.1, h.2.2⟩
theorem info_strx : (Try.prog.info? 9).map (fun i => (i.zero, i.size)) = some (some (.string ⟨#[]⟩), 1) := by kernel_rfl
theorem info_str' : ∃ i, Try.prog.info? 9 = some i ∧ i.zero = some (.string ⟨#[]⟩) ∧ i.size = 1 := by
 cases hi : Try.prog.info? 9 with
 | none => have := info_strx; rw [hi] at this; cases this
 | some i =>
  have h := info_strx
  rw [hi] at h
  simp only [Option.map_some, Option.some.injEq, Prod.mk.injEq] at h
  exact ⟨i, rfl, h.1, h.2⟩
theorem size1tint : (Try.prog.info? 3).map (·.size) = some 1 := by kernel_rfl
/-- Up to a place, and nothing behind it. -/
def upN (V : Nat → Nat) (k i : Nat) : Nat := if i < k then V i else 0
def upZ (V : Nat → Int) (k i : Nat) : Int := if i < k then V i else 0
theorem upN_next (V : Nat → Nat) (k i : Nat) : upN V (k + 1) i = if i = k then V k else upN V k i := by
 unfold upN
 by_cases h : i = k
 ·subst h; rw [if_pos (by omega), if_pos rfl]
 ·rw [if_neg h]
  by_cases h2 : i < k
  ·rw [if_pos h2, if_pos (by omega)]
  ·rw [if_neg h2, if_neg (by omega)]
theorem upZ_next (V : Nat → Int) (k i : Nat) : upZ V (k + 1) i = if i = k then V k else upZ V k i := by
 unfold upZ
 by_cases h : i = k
 ·subst h; rw [if_pos (by omega), if_pos rfl]
 ·rw [if_neg h]
  by_cases h2 : i < k
  ·rw [if_pos h2, if_pos (by omega)]
  ·rw [if_neg h2, if_neg (by omega)]
/-- Digits alone, and not too many. -/
def DigS (l : List UInt8) : Prop := l.length < 9223372036854775808 ∧ ∀ i, i < l.length → 48 ≤ yb l i
def dig? (l : List UInt8) : Bool := l.all fun b => decide (48 ≤ b.toNat)
theorem digS_of (l : List UInt8) (hl : l.length < 9223372036854775808) (h : dig? l = true) : DigS l := by
 refine ⟨hl, fun i hi => ?_⟩
 unfold dig? at h
 rw [List.all_eq_true] at h
 have := h l[i] (List.getElem_mem hi)
 unfold yb
 simpa [hi] using this
set_option maxRecDepth 100000 in
set_option maxHeartbeats 2000000 in
theorem written_any (n : Nat) (lg : List UInt8) (f : Nat → List UInt8) (gS : Nat) (w : World) (hn : n ≤ 1000) (hg : DigS lg) (hf : ∀ i, i < n → DigS (f i)) (rS : Row w gS (sxC n f) 9) :
  Calls Try.prog 33 #[.string ⟨lg.toArray⟩, .slice (some ⟨gS, 0, none⟩) n n] w fun e w' => ∃ g, e = .returned (.agg (paC (some ⟨g, 0, none⟩) n n (dcN lg lg.length))) ∧ w.heap.size ≤ g ∧ Row w' g (lksC n (fun i => dcN (f i) (f i).length) twoA) 58 ∧ Below w.heap.size w w' := by
 obtain ⟨ie, hie, hz, hsz, hby⟩ := info_lkb
 have hc1 : n * ie.size ≤ 16777216 := by rw [hsz]; omega
 have hc2 : ie.bytes * n ≤ 281474976710656 := by rw [hby]; omega
 have hc3 : n ≤ 9223372036854775807 := by omega
 have hml := made_lks n (n * ie.size) (by rw [hsz])
 have hdg := fun w' => decimal_any lg w' hg.1 hg.2
 have hdf := fun i (hi : i < n) w' => decimal_any (f i) w' (hf i hi).1 (hf i hi).2
 have hV : ∀ i, dcN (f i) (f i).length = (fun i => dcN (f i) (f i).length) i := fun _ => rfl
 generalize (fun i => dcN (f i) (f i).length) = V at *
 simp only [hV] at hdf
 clear hV hg hf
 generalize dcN lg lg.length = DG at *
 go_enter Try.func33, Try.ntmps33
 (repeat ((fail_if_success with_reducible refine rg ?_); go_step))
 refine wp_region_pw ?_
 refine pw_new (by rfl) 27 rfl _ zero_pa ?_
 intro g4 z0 n0 r4 k
 simp only [Act.put, pu]
 have dSx4 := Nat.lt_of_lt_of_le rS.lt n0
 have b4 : w.heap.size ≤ g4 := n0
 clear n0
 replace rS := k.row rS (by simp <;> omega)
 have sb := k.below w.heap.size (Nat.le_refl _) (by simp)
 clear k
 refine pw_nil ?_
 (repeat ((fail_if_success with_reducible refine rg ?_); go_step))
 refine wp_region_pw ?_
 refine pw_mv (by rfl) rfl rfl ?_
 simp only [Act.put, pu]
 refine pw_value (by rfl) (.int .i64 n) (exec_len_s 82 _ rfl (some ⟨gS, 0, none⟩) n n rfl (by kernel_rfl)) ?_
 simp only [Act.put, pu]
 refine pw_make (by rfl) 22 58 _ _ rfl ie _ Try.underlying22 hie hz n rfl rfl hc1 hc2 hc3 ?_
 intro g9 z1002 n0 r9 k
 simp only [Act.put, pu]
 have dSx9 := Nat.lt_of_lt_of_le rS.lt n0
 have d4x9 := Nat.lt_of_lt_of_le r4.lt n0
 have b9 := Nat.le_trans sb.size n0
 clear n0
 replace rS := k.row rS (by simp <;> omega)
 replace r4 := k.row r4 (by simp <;> omega)
 replace sb := sb.trans (k.below w.heap.size sb.size (by simp <;> omega))
 clear k
 refine pw_as (by rfl) rfl rfl ?_
 simp only [Act.put, pu]
 refine pw_nil ?_
 rw [hml] at r9
 clear hml hc1 hc2 hc3 hz hie hsz hby
 (repeat ((fail_if_success with_reducible refine rg ?_); go_step))
 apply wp_region_mixp [] [_, _, _] trivial List.nodup_nil
 ·intro p
  refine mx_move rfl rfl ?_
  simp only [Act.put, pu]
  refine mx_val (.int .i64 n) (exec_len_s 22 _ rfl (some ⟨g9, 0, none⟩) n n rfl sl_link) ?_
  simp only [Act.put, pu]
  refine mx_val (.int .i64 0) (fun _ => rfl) ?_
  simp only [Act.put, pu]
  refine mx_end ?_
  intro w4 hkw hrw hnew hdis
  replace rS := hkw.row rS (by simp <;> omega)
  replace r4 := hkw.row r4 (by simp <;> omega)
  replace r9 := hkw.row r9 (by simp <;> omega)
  replace sb := sb.trans (hkw.below w.heap.size sb.size (by simp <;> omega))
  clear hkw hrw hnew hdis
  go_wp2_with fail
  go_loopg [12] n (fun g s12 wr => ∃ k : Nat, k + g = n ∧ s12 = .int .i64 k ∧ Row wr g4 (paC none 0 0 0) 27 ∧ Row wr gS (sxC n f) 9 ∧ Row wr g9 (lksC n (upN V k) (upZ twoA k)) 58 ∧ Below w.heap.size w wr)
  case atStart => exact ⟨0, by omega, rfl, r4, rS, by rw [show upN V 0 = fun _ => 0 from funext fun i => if_neg (Nat.not_lt_zero i), show upZ twoA 0 = fun _ => 0 from funext fun i => if_neg (Nat.not_lt_zero i)]; exact r9, sb⟩
  case round =>
   clear sb r4 rS r9
   obtain ⟨k, hk, rfl, r4, rS, r9, sb⟩ := hrel
   cases gk with
   | zero =>
    obtain rfl : k = n := by omega
    have e0 : lksC k (upN V k) (upZ twoA k) = lksC k V twoA := lksC_congr k _ _ _ _ (fun j hj => ⟨if_pos hj, if_pos hj⟩)
    rw [e0] at r9
    clear e0 hdf
    (repeat ((fail_if_success with_reducible refine rg ?_); go_step))
    apply wp_region_mixp [] [_] trivial List.nodup_nil
    ·intro p
     refine mx_val (.bool false) (exec_lt_b _ _ _ _ rfl k k rfl rfl false (decide_eq_false (Int.lt_irrefl _))) ?_
     simp only [Act.put, pu]
     refine mx_end ?_
     intro w5 hkw hrw hnew hdis
     replace r4 := hkw.row r4 (by simp <;> omega)
     replace rS := hkw.row rS (by simp <;> omega)
     replace r9 := hkw.row r9 (by simp <;> omega)
     replace sb := sb.trans (hkw.below w.heap.size sb.size (by simp <;> omega))
     clear hkw hrw hnew hdis
     (repeat ((fail_if_success with_reducible refine rg ?_); go_step))
     refine wp_region_pw ?_
     refine pw_mv (by rfl) rfl rfl ?_
     simp only [Act.put, pu]
     refine pw_mv (by rfl) rfl rfl ?_
     simp only [Act.put, pu]
     refine pw_callB (by rfl) 52 _ _ rfl Try.func52 (by kernel_rfl) #[.string ⟨lg.toArray⟩] rfl _ (hdg _) ?_
     intro z9002 k
     simp only [Act.put, pu]
     replace r4 := k.row r4 (by simp <;> omega)
     replace r9 := k.row r9 (by simp <;> omega)
     replace sb := sb.trans (k.below w.heap.size sb.size (by simp <;> omega))
     clear k
     refine pw_value (by rfl) (.agg (paC (some ⟨g9, 0, none⟩) k k DG)) (exec_buildv _ _ rfl [(0, .slice (some ⟨g9, 0, none⟩) k k), (1, .agg (natC DG))] rfl _ (built_pa _ _ _ _)) ?_
     simp only [Act.put, pu]
     refine pw_put (by rfl) 27 _ _ rfl _ rfl r4 (paC (some ⟨g9, 0, none⟩) k k DG) rfl (by exact size_pa) (by rfl) (pa_one _ _ _ _) ?_
     clear r4
     intro z9004 r4 k
     simp only [Act.put]
     replace r9 := k.row r9 (by simp <;> omega)
     replace sb := sb.trans (k.below w.heap.size sb.size (by simp <;> omega))
     clear k
     refine pw_nil ?_
     go_wp2
     exact ret_rowd rfl _ rfl r4 _ Try.underlying27 (by exact size_pa) rfl ⟨g9, rfl, b9, r9, sb⟩
    ·rfl
   | succ g =>
    have hkl : k < n := by omega
    have hdk := hdf k hkl
    (repeat ((fail_if_success with_reducible refine rg ?_); go_step))
    apply wp_region_mixp [] [_] trivial List.nodup_nil
    ·intro p
     refine mx_val (.bool true) (exec_lt_b _ _ _ _ rfl k n rfl rfl true (decide_eq_true (by omega))) ?_
     simp only [Act.put, pu]
     refine mx_end ?_
     intro w5 hkw hrw hnew hdis
     replace r4 := hkw.row r4 (by simp <;> omega)
     replace rS := hkw.row rS (by simp <;> omega)
     replace r9 := hkw.row r9 (by simp <;> omega)
     replace sb := sb.trans (hkw.below w.heap.size sb.size (by simp <;> omega))
     clear hkw hrw hnew hdis
     (repeat ((fail_if_success with_reducible refine rg ?_); go_step))
     apply wp_region_mixp [] [_, _] trivial List.nodup_nil
     ·intro p
      refine mx_move rfl rfl ?_
      simp only [Act.put, pu]
      refine mx_asg rfl rfl ?_
      simp only [Act.put, pu]
      refine mx_end ?_
      intro w6 hkw hrw hnew hdis
      replace r4 := hkw.row r4 (by simp <;> omega)
      replace rS := hkw.row rS (by simp <;> omega)
      replace r9 := hkw.row r9 (by simp <;> omega)
      replace sb := sb.trans (hkw.below w.heap.size sb.size (by simp <;> omega))
      clear hkw hrw hnew hdis
      (repeat ((fail_if_success with_reducible refine rg ?_); go_step))
      refine wp_region_pw ?_
      refine pw_mv (by rfl) rfl rfl ?_
      simp only [Act.put, pu]
      refine pw_mv (by rfl) rfl rfl ?_
      simp only [Act.put, pu]
      refine pw_mv (by rfl) rfl rfl ?_
      simp only [Act.put, pu]
      refine pw_mv (by rfl) rfl rfl ?_
      simp only [Act.put, pu]
      refine pw_value (by rfl) (.pointer (some ⟨gS, 0 + k * 1, none⟩)) (exec_index_s 82 _ _ rfl gS 0 n n rfl k rfl (by omega) _ Try.underlying82 1 Try.sizeOf9) ?_
      simp only [Act.put, pu]
      refine pw_loadk (by rfl) 9 _ rfl _ (0 + k * 1) rfl rS.r (.string ⟨(f k).toArray⟩) (sxC_get n f k _ hkl (by omega)) Try.isAgg9 ?_
      simp only [Act.put, pu]
      refine pw_callB (by rfl) 52 _ _ rfl Try.func52 (by kernel_rfl) #[.string ⟨(f k).toArray⟩] rfl _ (hdk _) ?_
      intro z5006 k
      simp only [Act.put, pu]
      replace r4 := k.row r4 (by simp <;> omega)
      replace rS := k.row rS (by simp <;> omega)
      replace r9 := k.row r9 (by simp <;> omega)
      replace sb := sb.trans (k.below w.heap.size sb.size (by simp <;> omega))
      clear k
      refine pw_value (by rfl) (.pointer (some ⟨g9, 0 + k * 5, none⟩)) (exec_index_s 22 _ _ rfl g9 0 n n rfl k rfl (by omega) _ Try.underlying22 5 Try.sizeOf58) ?_
      simp only [Act.put, pu]
      refine pw_value (by rfl) (.pointer (some ⟨g9, 0 + k * 5, none⟩)) (exec_field 58 _ 0 rfl g9 (0 + k * 5) rfl _ Try.underlying58 _ rfl 3 Try.sizeOf25) ?_
      simp only [Act.put, pu]
      refine pw_putm (by rfl) 25 _ _ rfl _ (0 + k * 5) rfl r9 (natC (V k)) rfl (by exact size_nat) (by rw [lksC_size]; show 0 + k * 5 + 4 ≤ 5 * n; omega) (natC_one _) (lksC n (upN V (k + 1)) (upZ twoA k)) (lksC_putN n _ _ _ k _ _ hkl (by omega) (fun j _ => upN_next V k j)) ?_
      clear r9
      intro z5009 r9 k
      simp only [Act.put]
      replace r4 := k.row r4 (by simp <;> omega)
      replace rS := k.row rS (by simp <;> omega)
      replace sb := sb.trans (k.below w.heap.size sb.size (by simp <;> omega))
      clear k
      refine pw_nil ?_
      by_cases hk0 : 0 < k
      ·clear hdf hdk
       (repeat ((fail_if_success with_reducible refine rg ?_); go_step))
       apply wp_region_mixp [] [_, _] trivial List.nodup_nil
       ·intro p
        refine mx_move rfl rfl ?_
        simp only [Act.put, pu]
        refine mx_val (.bool true) (exec_gt_i _ _ _ _ rfl k 0 rfl rfl true (decide_eq_true (by omega))) ?_
        simp only [Act.put, pu]
        refine mx_end ?_
        intro w8 hkw hrw hnew hdis
        replace r4 := hkw.row r4 (by simp <;> omega)
        replace rS := hkw.row rS (by simp <;> omega)
        replace r9 := hkw.row r9 (by simp <;> omega)
        replace sb := sb.trans (hkw.below w.heap.size sb.size (by simp <;> omega))
        clear hkw hrw hnew hdis
        (repeat ((fail_if_success with_reducible refine rg ?_); go_step))
        refine wp_region_pw ?_
        refine pw_mv (by rfl) rfl rfl ?_
        simp only [Act.put, pu]
        refine pw_mv (by rfl) rfl rfl ?_
        simp only [Act.put, pu]
        refine pw_value (by rfl) (.pointer (some ⟨g9, 0 + k * 5, none⟩)) (exec_index_s 22 _ _ rfl g9 0 n n rfl k rfl (by omega) _ Try.underlying22 5 Try.sizeOf58) ?_
        simp only [Act.put, pu]
        refine pw_value (by rfl) (.pointer (some ⟨g9, 0 + k * 5 + 4, none⟩)) (exec_field 58 _ 1 rfl g9 (0 + k * 5) rfl _ Try.underlying58 _ rfl 0 Try.sizeOf3) ?_
        simp only [Act.put, pu]
        refine pw_putv (by rfl) 3 _ _ rfl _ (0 + k * 5 + 4) rfl r9 (.int .i64 2) rfl rfl rfl size1tint (by rw [lksC_size]; omega) (lksC n (upN V (k + 1)) (upZ twoA (k + 1))) (lksC_putA n _ _ _ k _ 2 hkl (by omega) (fun j _ => by rw [upZ_next, show twoA k = 2 from if_neg (by omega)])) ?_
        clear r9
        intro z7004 r9 k
        simp only [Act.put]
        replace r4 := k.row r4 (by simp <;> omega)
        replace rS := k.row rS (by simp <;> omega)
        replace sb := sb.trans (k.below w.heap.size sb.size (by simp <;> omega))
        clear k
        refine pw_nil ?_
        (repeat ((fail_if_success with_reducible refine rg ?_); go_step))
        apply wp_region_mixp [] [_, _] trivial List.nodup_nil
        ·intro p
         refine mx_val (.int .i64 ((k + 1 : Nat) : Int)) (exec_add_in _ _ _ _ rfl k 1 rfl rfl (by omega)) ?_
         simp only [Act.put, pu]
         refine mx_move rfl rfl ?_
         simp only [Act.put, pu]
         refine mx_end ?_
         intro w9 hkw hrw hnew hdis
         replace r4 := hkw.row r4 (by simp <;> omega)
         replace rS := hkw.row rS (by simp <;> omega)
         replace r9 := hkw.row r9 (by simp <;> omega)
         replace sb := sb.trans (hkw.below w.heap.size sb.size (by simp <;> omega))
         clear hkw hrw hnew hdis
         go_wp2
         go_roundg g
         case measure => omega
         case rel => exact ⟨k + 1, by omega, rfl, r4, rS, r9, sb⟩
        ·rfl
       ·rfl
      ·clear hdf hdk
       (repeat ((fail_if_success with_reducible refine rg ?_); go_step))
       apply wp_region_mixp [] [_, _] trivial List.nodup_nil
       ·intro p
        refine mx_move rfl rfl ?_
        simp only [Act.put, pu]
        refine mx_val (.bool false) (exec_gt_i _ _ _ _ rfl k 0 rfl rfl false (decide_eq_false (by omega))) ?_
        simp only [Act.put, pu]
        refine mx_end ?_
        intro w8 hkw hrw hnew hdis
        replace r4 := hkw.row r4 (by simp <;> omega)
        replace rS := hkw.row rS (by simp <;> omega)
        replace r9 := hkw.row r9 (by simp <;> omega)
        replace sb := sb.trans (hkw.below w.heap.size sb.size (by simp <;> omega))
        clear hkw hrw hnew hdis
        have e0 : lksC n (upN V (k + 1)) (upZ twoA k) = lksC n (upN V (k + 1)) (upZ twoA (k + 1)) := lksC_congr n _ _ _ _ (fun j _ => ⟨rfl, by
         obtain rfl : k = 0 := by omega
         rw [upZ_next]
         by_cases h : j = 0
         ·subst h; rfl
         ·rw [if_neg h]⟩)
        rw [e0] at r9
        clear e0
        (repeat ((fail_if_success with_reducible refine rg ?_); go_step))
        apply wp_region_mixp [] [_, _] trivial List.nodup_nil
        ·intro p
         refine mx_val (.int .i64 ((k + 1 : Nat) : Int)) (exec_add_in _ _ _ _ rfl k 1 rfl rfl (by omega)) ?_
         simp only [Act.put, pu]
         refine mx_move rfl rfl ?_
         simp only [Act.put, pu]
         refine mx_end ?_
         intro w9 hkw hrw hnew hdis
         replace r4 := hkw.row r4 (by simp <;> omega)
         replace rS := hkw.row rS (by simp <;> omega)
         replace r9 := hkw.row r9 (by simp <;> omega)
         replace sb := sb.trans (hkw.below w.heap.size sb.size (by simp <;> omega))
         clear hkw hrw hnew hdis
         go_wp2
         go_roundg g
         case measure => omega
         case rel => exact ⟨k + 1, by omega, rfl, r4, rS, r9, sb⟩
        ·rfl
       ·rfl
     ·rfl
    ·rfl
 ·rfl
end Go.Proofs.Ytbmkebdfaokmhaa
