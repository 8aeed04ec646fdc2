/- strings.Clone. -/
import Derived.Test.YtojobffihlmfgaaSI
import Derived.Test.YtojobffihlmfgaaTA
import Derived.Lib.UnsafeStr
import Derived.Test.YtojobffihlmfgaaWRC
import Derived.Test.YtojobffihlmfgaaWRD
import Derived.Test.YtojobffihlmfgaaMB
namespace Go.Proofs.Ytojobffihlmfgaa
open Go.RowKit
set_option linter.unusedVariables false
theorem copy_all (L : List UInt8) : putL (rC .u8 L.length fun _ => 0) 0 (b8s (L.take L.length)) = rC .u8 L.length (bf L) := by
 rw [List.take_length]
 apply Array.ext_getElem?
 intro i
 rw [putL_get _ _ _ _ (by rw [b8s_length, rC_size]; omega), b8s_length]
 by_cases hi : i < L.length
 ·rw [rC_get .u8 L.length (bf L) i hi, if_pos (by omega), Nat.sub_zero, b8s_get _ _ (by omega)]
 ·rw [if_neg (by omega), Array.getElem?_eq_none (by rw [rC_size]; omega), Array.getElem?_eq_none (by rw [rC_size]; omega)]
theorem cellsB1 : Try.prog.cellsOf 5 = 1 := by kernel_rfl
/-- unsafe.String over a row of bytes. -/
theorem x_ustr {o : Oper} {ρ : Operand → Value} (x y : Operand) (pt it : TypeId) (ho : o.op = .call { callee := .builtin .unsafeString, args := #[x, y], argTypes := #[pt, it] }) (hp : Try.prog.underlying pt = some (.pointer 5)) (g : Nat) (l : List UInt8) (hx : ρ x = .pointer (some ⟨g, 0, none⟩)) (hy : ρ y = .int .i64 (l.length : Nat))
  (w : World) (hr : Row w g (rC .u8 l.length (bf l)) 5) (h0 : l ≠ []) (h63 : l.length ≤ 9223372036854775807) : (execOp ρ o).run Try.prog w = .ok (.value (.string ⟨l.toArray⟩)) (w.freeze ⟨g, 0, none⟩ l.length) := by
 have h := Lib.run_unsafeString_row (P := Try.prog) w pt it o.type 5 hp cellsB1 g l.length (by unfold World.shape?; rw [hr]; simp [rC_size]) l h0 (Nat.le_refl _) h63 (fun j b hj => by
  have hl : j < l.length := (List.getElem?_eq_some_iff.1 hj).1
  rw [Addr.add_mid, hr.r.cell, Nat.zero_add, rC_get _ _ _ _ hl]
  unfold bf
  rw [List.getD_eq_getElem?_getD, hj]
  rfl)
 unfold execOp
 simp only [ho]
 simp only [resolve, invoke, Sem.run_bind, Sem.run_pure, Result.andThen_ok, List.map_toArray, List.map_cons, List.map_nil, hx, hy]
 simp [builtin, h]
set_option maxRecDepth 100000 in
set_option maxHeartbeats 2000000 in
theorem sclone_any (l : List UInt8) (w : World) (hl : l.length ≤ 16777216) :
  Calls Try.prog 60 #[.string ⟨l.toArray⟩] w fun e w' => e = .returned (.string ⟨l.toArray⟩) ∧ Below w.heap.size w w' := by
 by_cases h : l.length = 0
 ·obtain rfl : l = [] := List.eq_nil_of_length_eq_zero h
  clear h hl
  go_enter Try.func60, Try.ntmps60
  (repeat ((fail_if_success with_reducible refine rg ?_); go_step))
  refine wp_region_pw ?_
  refine pw_move (by rfl) (.inr rfl) rfl ?_
  simp only [Act.put, pu]
  refine pw_nil ?_
  have sb := Below.refl w.heap.size w
  (repeat ((fail_if_success with_reducible refine rg ?_); go_step))
  refine wp_region_pw ?_
  refine pw_mv (by rfl) rfl rfl ?_
  simp only [Act.put, pu]
  refine pw_value (by rfl) (.int .i64 0) (y_lenS _ _ rfl [] rfl Try.underlying9) ?_
  simp only [Act.put, pu]
  refine pw_value (by rfl) (.bool true) (x_eqI _ _ _ _ rfl .i64 0 0 rfl rfl true rfl) ?_
  simp only [Act.put, pu]
  refine pw_nil ?_
  (repeat ((fail_if_success with_reducible refine rg ?_); go_step))
  refine wp_region_pw ?_
  refine pw_move (by rfl) (.inr rfl) rfl ?_
  simp only [Act.put, pu]
  refine pw_nil ?_
  go_wp2
  go_ret
  exact ⟨rfl, sb⟩
 ·have h0 : l ≠ [] := fun e => h (by rw [e]; rfl)
  have hcp := copy_all l
  have hq : min l.length l.length = l.length := Nat.min_self _
  have hx : (l.length : Int) ≠ 0 := by omega
  have h1 : 0 < l.length := by omega
  go_enter Try.func60, Try.ntmps60
  (repeat ((fail_if_success with_reducible refine rg ?_); go_step))
  refine wp_region_pw ?_
  refine pw_move (by rfl) (.inr rfl) rfl ?_
  simp only [Act.put, pu]
  refine pw_nil ?_
  have sb := Below.refl w.heap.size w
  (repeat ((fail_if_success with_reducible refine rg ?_); go_step))
  refine wp_region_pw ?_
  refine pw_mv (by rfl) rfl rfl ?_
  simp only [Act.put, pu]
  refine pw_value (by rfl) (.int .i64 (l.length : Nat)) (y_lenS _ _ rfl l rfl Try.underlying9) ?_
  simp only [Act.put, pu]
  refine pw_value (by rfl) (.bool false) (x_eqI _ _ _ _ rfl .i64 (l.length : Nat) 0 rfl rfl false (decide_eq_false hx)) ?_
  simp only [Act.put, pu]
  refine pw_nil ?_
  (repeat ((fail_if_success with_reducible refine rg ?_); go_step))
  apply wp_region_mixp [] [_, _, _, _] trivial List.nodup_nil
  ·intro p
   refine mx_move rfl rfl ?_
   simp only [Act.put, pu]
   refine mx_val (.int .i64 (l.length : Nat)) (y_lenS _ _ rfl l rfl Try.underlying9) ?_
   simp only [Act.put, pu]
   refine mx_makeB _ _ rfl .i64 l.length rfl rfl hl ?_
   simp only [Act.put, pu]
   refine mx_asgP 2 (fun g => .slice (some ⟨g, 0, none⟩) l.length l.length) (.inl rfl) (by omega) rfl ?_
   simp only [Act.put, pu]
   refine mx_end ?_
   intro w4 hkw hrw hnew hdis
   have n9 := hnew 2 rfl
   have zr9 : Row w4 (p 2) (rC .u8 l.length fun _ => 0) 5 := hrw 5 (5, rC .u8 l.length fun _ => 0) rfl
   have b9 := Nat.le_trans sb.size n9
   replace sb := sb.trans (hkw.below w.heap.size sb.size (by simp <;> omega))
   clear hkw hrw hnew hdis n9
   generalize p 2 = g9 at *
   have r9 := zr9
   clear zr9
   (repeat ((fail_if_success with_reducible refine rg ?_); go_step))
   apply wp_region_mixp [(g9, 5, rC .u8 l.length fun _ => 0)] [_, _, _] ⟨r9, trivial⟩ (by simp <;> omega)
   ·intro p
    refine mx_move rfl rfl ?_
    simp only [Act.put, pu]
    refine mx_move rfl rfl ?_
    simp only [Act.put, pu]
    refine mx_copyS 0 _ _ _ _ 5 rfl Try.underlying81 Try.sizeOf5 0 l.length l.length rfl rfl l rfl l.length hq (by rw [rC_size]; omega) (rC .u8 l.length (bf l)) hcp ?_
    simp only [Act.put, pu]
    refine mx_end ?_
    intro w5 hkw hrw hnew hdis
    have zr9 : Row w5 (g9) (rC .u8 l.length (bf l)) 5 := hrw 0 (5, rC .u8 l.length (bf l)) rfl
    replace sb := sb.trans (hkw.below w.heap.size sb.size (by simp <;> omega))
    clear hkw hrw hnew hdis r9
    have r9 := zr9
    clear zr9
    (repeat ((fail_if_success with_reducible refine rg ?_); go_step))
    refine wp_region_pw ?_
    refine pw_mv (by rfl) rfl rfl ?_
    simp only [Act.put, pu]
    refine pw_value (by rfl) (.pointer (some ⟨g9, 0, none⟩)) (x_idxS _ _ _ rfl g9 0 l.length l.length rfl 0 rfl h1 _ Try.underlying81 Try.sizeOf5 0 rfl) ?_
    simp only [Act.put, pu]
    refine pw_mv (by rfl) rfl rfl ?_
    simp only [Act.put, pu]
    refine pw_value (by rfl) (.int .i64 (l.length : Nat)) (x_lenL _ _ rfl _ _ _ rfl Try.underlying81) ?_
    simp only [Act.put, pu]
    refine pw_run (by rfl) (.string ⟨l.toArray⟩) _ (x_ustr _ _ _ _ rfl Try.underlying103 g9 l rfl rfl _ r9 h0 (by omega)) ?_
    simp only [Act.put, pu]
    replace sb := Lib.below_freeze sb (p := ⟨g9, 0, none⟩) b9 l.length
    clear r9
    refine pw_as (by rfl) rfl rfl ?_
    simp only [Act.put, pu]
    refine pw_nil ?_
    go_wp2
    go_ret
    exact ⟨rfl, sb⟩
   ·rfl
  ·rfl
set_option maxRecDepth 100000 in
set_option maxHeartbeats 2000000 in
theorem clone_any (l : List UInt8) (w : World) (hl : l.length ≤ 16777216) :
  Calls Try.prog 36 #[.string ⟨l.toArray⟩] w fun e w' => e = .returned (.string ⟨l.toArray⟩) ∧ Below w.heap.size w w' := by
 go_enter Try.func36, Try.ntmps36
 (repeat ((fail_if_success with_reducible refine rg ?_); go_step))
 refine wp_region_pw ?_
 refine pw_move (by rfl) (.inr rfl) rfl ?_
 simp only [Act.put, pu]
 refine pw_nil ?_
 have sb := Below.refl w.heap.size w
 (repeat ((fail_if_success with_reducible refine rg ?_); go_step))
 refine wp_region_pw ?_
 refine pw_mv (by rfl) rfl rfl ?_
 simp only [Act.put, pu]
 refine pw_callB (by rfl) 60 _ _ rfl Try.func60 (by kernel_rfl) #[.string ⟨l.toArray⟩] rfl _ (sclone_any l _ hl) ?_
 intro z1001 k
 simp only [Act.put, pu]
 replace sb := sb.trans (k.below w.heap.size sb.size (by simp <;> omega))
 clear k
 refine pw_as (by rfl) rfl rfl ?_
 simp only [Act.put, pu]
 refine pw_nil ?_
 go_wp2
 go_ret
 exact ⟨rfl, sb⟩
end Go.Proofs.Ytojobffihlmfgaa
/- wire.Take, of a message without a matrix; the document's Same of the same. -/
namespace Go.Proofs.Ytojobffihlmfgaa
open Go.RowKit
set_option linter.unusedVariables false
set_option linter.unusedSimpArgs false
theorem nuL_bf (n s k : Nat) (h : k < s) : bf (nuL n s) k = n / 2 ^ ((s - 1 - k) * 8) % 256 := by
 unfold bf nuL
 rw [List.getD_eq_getElem?_getD, List.getElem?_map, List.getElem?_range h]
 exact UInt8.toNat_ofNat_of_lt' (Nat.mod_lt _ (by decide))
theorem nuV_nuL (n s : Nat) : ∀ k, k ≤ s → nuV (nuL n s) k = n / 2 ^ ((s - k) * 8) % 256 ^ k
 | 0, _ => by rw [Nat.pow_zero, Nat.mod_one]; rfl
 | k + 1, h => by
  have e := nuV_nuL n s k (by omega)
  show nuV (nuL n s) k * 256 + bf (nuL n s) k = _
  rw [e, nuL_bf n s k (by omega)]
  have e1 : (s - k) * 8 = (s - (k + 1)) * 8 + 8 := by omega
  have e2 : s - 1 - k = s - (k + 1) := by omega
  rw [e1, e2, Nat.pow_add, ← Nat.div_div_eq_div_mul]
  generalize n / 2 ^ ((s - (k + 1)) * 8) = D
  rw [show (2 : Nat) ^ 8 = 256 from rfl, show (256 : Nat) ^ (k + 1) = 256 * 256 ^ k by rw [Nat.pow_succ, Nat.mul_comm], Nat.mod_mul]
  omega
theorem nuV_is (n s : Nat) (h : n < 256 ^ s) : nuV (nuL n s) s = n := by
 rw [nuV_nuL n s s (Nat.le_refl _), Nat.sub_self, Nat.zero_mul, Nat.pow_zero, Nat.div_one, Nat.mod_eq_of_lt h]
theorem cat_take (a b : List UInt8) (k : Nat) (h : a.length = k) : (a ++ b).take k = a ∧ (a ++ b).drop k = b := by
 subst h
 exact ⟨by simp, by simp⟩
theorem snum_cat (n s : Nat) (R : List UInt8) (g0 : Nat) (w : World) (r0 : Row w g0 #[.string ⟨(nuL n s ++ R).toArray⟩] 64) (hs : 1 ≤ s) (hs6 : s ≤ 6) (hn : n < 256 ^ s) :
  Calls Try.prog 30 #[.pointer (some ⟨g0, 0, none⟩), .int .i64 (s : Nat)] w fun e w' => e = .returned (.int .i64 (n : Nat)) ∧ Row w' g0 #[.string ⟨R.toArray⟩] 64 ∧ Kept [g0] w w' := by
 obtain ⟨e1, e2⟩ := cat_take (nuL n s) R s (nuL_length n s)
 have h := snum_ok (nuL n s ++ R) s g0 w r0 hs hs6 (by rw [List.length_append, nuL_length]; omega)
 rw [e1, e2, nuV_is n s hn] at h
 exact h
theorem stext_cat (x : List UInt8) (s : Nat) (R : List UInt8) (g0 : Nat) (w : World) (r0 : Row w g0 #[.string ⟨(nuL x.length s ++ (x ++ R)).toArray⟩] 64) (hs : 1 ≤ s) (hs6 : s ≤ 6) (hn : x.length < 256 ^ s) :
  Calls Try.prog 31 #[.pointer (some ⟨g0, 0, none⟩), .int .i64 (s : Nat)] w fun e w' => e = .returned (.string ⟨x.toArray⟩) ∧ Row w' g0 #[.string ⟨R.toArray⟩] 64 ∧ Kept [g0] w w' := by
 obtain ⟨e1, e2⟩ := cat_take (nuL x.length s) (x ++ R) s (nuL_length _ s)
 obtain ⟨e3, e4⟩ := cat_take x R x.length rfl
 have h := stext_ok (nuL x.length s ++ (x ++ R)) s x.length g0 w r0 hs hs6 (by rw [List.length_append, nuL_length]; omega) (by rw [e1]; exact nuV_is _ s hn) (by rw [e2, List.length_append]; omega)
 rw [e2, e3, e4] at h
 exact h
/-- The bytes of a message without a matrix, to be read. -/
def rdL (kd op : Nat) (key : List UInt8) (sq cl : Nat) (dg : List UInt8) : List UInt8 :=
 nuL kd 1 ++ (nuL op 4 ++ (nuL key.length 1 ++ (key ++ (nuL sq 6 ++ (nuL cl 1 ++ (nuL dg.length 1 ++ (dg ++ (nuL ([] : List UInt8).length 2 ++ (([] : List UInt8) ++ [])))))))))
theorem mtA_nil (w : World) (N : Nat → Nat) (M : Nat → Nat → Nat) : MtA w none 0 N M := ⟨fun _ => .nilIface, 0, 0, #[], 0, ⟨.inl rfl⟩, fun i hi => absurd hi (Nat.not_lt_zero i)⟩
set_option maxRecDepth 100000 in
set_option maxHeartbeats 2000000 in
theorem read_bare (kd op : Nat) (key : List UInt8) (sq cl : Nat) (dg : List UInt8) (N : Nat → Nat) (M : Nat → Nat → Nat) (w : World) (hkd : kd < 256 ^ 1) (hop : op < 256 ^ 4) (hsq : sq < 256 ^ 6) (hcl : cl < 256 ^ 1) (hkey : key.length < 200) (hdg : dg.length < 200)
  (hW : wmB kd op key sq cl dg (brB 0 0) (dlB 0 0 (xmB 0 N M)) = true) :
  Calls Try.prog 15 #[.string ⟨(rdL kd op key sq cl dg).toArray⟩] w fun e w' => e = .returned (.agg (msC (kd : Nat) (op : Nat) key (sq : Nat) (cl : Nat) dg none 0 0 none 0 0)) ∧ Below w.heap.size w w' := by
 have hlen : (rdL kd op key sq cl dg).length ≤ 8192 := by
  unfold rdL
  simp only [List.length_append, nuL_length, List.length_nil]
  omega
 have hC := fun w' => wCheck_any (kd : Nat) (op : Nat) key (sq : Nat) (cl : Nat) dg none 0 0 none 0 0 N M w' (by omega) (by decide) (mtA_nil w' N M)
 rw [hW] at hC
 have he : Hid (rdL kd op key sq cl dg = nuL kd 1 ++ (nuL op 4 ++ (nuL key.length 1 ++ (key ++ (nuL sq 6 ++ (nuL cl 1 ++ (nuL dg.length 1 ++ (dg ++ (nuL ([] : List UInt8).length 2 ++ (([] : List UInt8) ++ [])))))))))) := rfl
 generalize rdL kd op key sq cl dg = s at *
 clear hW
 go_enter Try.func15, Try.ntmps15
 (repeat ((fail_if_success with_reducible refine rg ?_); go_step))
 refine wp_region_pw ?_
 refine pw_new (by rfl) 29 rfl _ zero_ms ?_
 intro g2 z0 n0 r2 k
 simp only [Act.put, pu]
 have b2 : w.heap.size ≤ g2 := n0
 clear n0
 have sb := k.below w.heap.size (Nat.le_refl _) (by simp)
 clear k
 refine pw_nil ?_
 (repeat ((fail_if_success with_reducible refine rg ?_); go_step))
 refine wp_region_pw ?_
 refine pw_mv (by rfl) rfl rfl ?_
 simp only [Act.put, pu]
 refine pw_value (by rfl) (.int .i64 (s.length : Nat)) (y_lenS _ _ rfl s rfl Try.underlying9) ?_
 simp only [Act.put, pu]
 refine pw_value (by rfl) (.bool true) (w_le _ _ _ _ rfl (s.length : Nat) 8192 rfl rfl true (decide_eq_true (by omega))) ?_
 simp only [Act.put, pu]
 refine pw_callB (by rfl) 24 _ _ rfl Try.func24 (by kernel_rfl) #[.bool true, .int .i64 4] rfl _ (insist_any true 4 _) ?_
 intro z1003 k
 simp only [Act.put, pu]
 replace r2 := k.row r2 (by simp <;> omega)
 replace sb := sb.trans (k.below w.heap.size sb.size (by simp <;> omega))
 clear k
 refine pw_nil ?_
 (repeat ((fail_if_success with_reducible refine rg ?_); go_step))
 refine wp_region_pw ?_
 refine pw_mv (by rfl) rfl rfl ?_
 simp only [Act.put, pu]
 refine pw_value (by rfl) (.agg #[.string ⟨s.toArray⟩]) (exec_buildv _ [(0, _)] rfl [(0, .string ⟨s.toArray⟩)] rfl _ (built_so s)) ?_
 simp only [Act.put, pu]
 refine pw_new (by rfl) 64 rfl _ zero_so ?_
 intro g3 z2002 n0 r3 k
 simp only [Act.put, pu]
 have d2x3 := Nat.lt_of_lt_of_le r2.lt n0
 have b3 := Nat.le_trans sb.size n0
 clear n0
 replace r2 := k.row r2 (by simp <;> omega)
 replace sb := sb.trans (k.below w.heap.size sb.size (by simp <;> omega))
 clear k
 refine pw_put (by rfl) 64 _ _ rfl _ rfl r3 (#[.string ⟨s.toArray⟩]) rfl (by exact size_so) (by rfl) (so_one _) ?_
 clear r3
 intro z2003 r3 k
 simp only [Act.put]
 replace r2 := k.row r2 (by simp <;> omega)
 replace sb := sb.trans (k.below w.heap.size sb.size (by simp <;> omega))
 clear k
 refine pw_nil ?_
 (repeat ((fail_if_success with_reducible refine rg ?_); go_step))
 refine wp_region_pw ?_
 refine pw_new (by rfl) 29 rfl _ zero_ms ?_
 intro g4 z3000 n0 r4 k
 simp only [Act.put, pu]
 have d2x4 := Nat.lt_of_lt_of_le r2.lt n0
 have d3x4 := Nat.lt_of_lt_of_le r3.lt n0
 have b4 := Nat.le_trans sb.size n0
 clear n0
 replace r2 := k.row r2 (by simp <;> omega)
 replace r3 := k.row r3 (by simp <;> omega)
 replace sb := sb.trans (k.below w.heap.size sb.size (by simp <;> omega))
 clear k
 refine pw_nil ?_
 rw [he.out] at r3
 clear he
 (repeat ((fail_if_success with_reducible refine rg ?_); go_step))
 refine wp_region_pw ?_
 refine pw_callE (by rfl) 30 _ _ rfl Try.func30 (by kernel_rfl) #[.pointer (some ⟨g3, 0, none⟩), .int .i64 1] rfl (snum_cat kd 1 _ g3 _ r3 (by decide) (by decide) hkd) ?_
 have cr3 := r3.lt
 clear r3
 rintro _ z4000 ⟨rfl, r3, k⟩
 refine ⟨_, rfl, ?_⟩
 simp only [Act.put, pu]
 clear cr3
 replace r2 := k.row r2 (by simp <;> omega)
 replace r4 := k.row r4 (by simp <;> omega)
 replace sb := sb.trans (k.below w.heap.size sb.size (by simp <;> omega))
 clear k
 refine pw_value (by rfl) (.pointer (some ⟨g4, 0, none⟩)) (exec_field 29 _ 0 rfl g4 0 rfl _ Try.underlying29 _ rfl 0 Try.sizeOf3) ?_
 simp only [Act.put, pu]
 refine pw_putv (by rfl) 3 _ _ rfl _ (0) rfl r4 (.int .i64 (kd : Nat)) rfl rfl rfl size1tint (by exact Nat.succ_pos _) (msC (kd : Nat) 0 [] 0 0 [] none 0 0 none 0 0) rfl ?_
 clear r4
 intro z4002 r4 k
 simp only [Act.put]
 replace r2 := k.row r2 (by simp <;> omega)
 replace r3 := k.row r3 (by simp <;> omega)
 replace sb := sb.trans (k.below w.heap.size sb.size (by simp <;> omega))
 clear k
 refine pw_nil ?_
 (repeat ((fail_if_success with_reducible refine rg ?_); go_step))
 refine wp_region_pw ?_
 refine pw_callE (by rfl) 30 _ _ rfl Try.func30 (by kernel_rfl) #[.pointer (some ⟨g3, 0, none⟩), .int .i64 4] rfl (snum_cat op 4 _ g3 _ r3 (by decide) (by decide) hop) ?_
 have cr3 := r3.lt
 clear r3
 rintro _ z5000 ⟨rfl, r3, k⟩
 refine ⟨_, rfl, ?_⟩
 simp only [Act.put, pu]
 clear cr3
 replace r2 := k.row r2 (by simp <;> omega)
 replace r4 := k.row r4 (by simp <;> omega)
 replace sb := sb.trans (k.below w.heap.size sb.size (by simp <;> omega))
 clear k
 refine pw_value (by rfl) (.pointer (some ⟨g4, 1, none⟩)) (exec_field 29 _ 1 rfl g4 0 rfl _ Try.underlying29 _ rfl 0 Try.sizeOf3) ?_
 simp only [Act.put, pu]
 refine pw_putv (by rfl) 3 _ _ rfl _ (1) rfl r4 (.int .i64 (op : Nat)) rfl rfl rfl size1tint (by exact Nat.succ_lt_succ (Nat.succ_pos _)) (msC (kd : Nat) (op : Nat) [] 0 0 [] none 0 0 none 0 0) rfl ?_
 clear r4
 intro z5002 r4 k
 simp only [Act.put]
 replace r2 := k.row r2 (by simp <;> omega)
 replace r3 := k.row r3 (by simp <;> omega)
 replace sb := sb.trans (k.below w.heap.size sb.size (by simp <;> omega))
 clear k
 refine pw_nil ?_
 (repeat ((fail_if_success with_reducible refine rg ?_); go_step))
 refine wp_region_pw ?_
 refine pw_callE (by rfl) 31 _ _ rfl Try.func31 (by kernel_rfl) #[.pointer (some ⟨g3, 0, none⟩), .int .i64 1] rfl (stext_cat key 1 _ g3 _ r3 (by decide) (by decide) (by omega)) ?_
 have cr3 := r3.lt
 clear r3
 rintro _ z6000 ⟨rfl, r3, k⟩
 refine ⟨_, rfl, ?_⟩
 simp only [Act.put, pu]
 clear cr3
 replace r2 := k.row r2 (by simp <;> omega)
 replace r4 := k.row r4 (by simp <;> omega)
 replace sb := sb.trans (k.below w.heap.size sb.size (by simp <;> omega))
 clear k
 refine pw_value (by rfl) (.pointer (some ⟨g4, 2, none⟩)) (exec_field 29 _ 2 rfl g4 0 rfl _ Try.underlying29 _ rfl 0 Try.sizeOf9) ?_
 simp only [Act.put, pu]
 refine pw_putv (by rfl) 9 _ _ rfl _ (2) rfl r4 (.string ⟨key.toArray⟩) rfl rfl rfl size1tstring (by exact (by decide : 2 < 8)) (msC (kd : Nat) (op : Nat) key 0 0 [] none 0 0 none 0 0) rfl ?_
 clear r4
 intro z6002 r4 k
 simp only [Act.put]
 replace r2 := k.row r2 (by simp <;> omega)
 replace r3 := k.row r3 (by simp <;> omega)
 replace sb := sb.trans (k.below w.heap.size sb.size (by simp <;> omega))
 clear k
 refine pw_nil ?_
 (repeat ((fail_if_success with_reducible refine rg ?_); go_step))
 refine wp_region_pw ?_
 refine pw_callE (by rfl) 30 _ _ rfl Try.func30 (by kernel_rfl) #[.pointer (some ⟨g3, 0, none⟩), .int .i64 6] rfl (snum_cat sq 6 _ g3 _ r3 (by decide) (by decide) hsq) ?_
 have cr3 := r3.lt
 clear r3
 rintro _ z7000 ⟨rfl, r3, k⟩
 refine ⟨_, rfl, ?_⟩
 simp only [Act.put, pu]
 clear cr3
 replace r2 := k.row r2 (by simp <;> omega)
 replace r4 := k.row r4 (by simp <;> omega)
 replace sb := sb.trans (k.below w.heap.size sb.size (by simp <;> omega))
 clear k
 refine pw_value (by rfl) (.pointer (some ⟨g4, 3, none⟩)) (exec_field 29 _ 3 rfl g4 0 rfl _ Try.underlying29 _ rfl 1 Try.sizeOf24) ?_
 simp only [Act.put, pu]
 refine pw_value (by rfl) (.pointer (some ⟨g4, 3, none⟩)) (exec_field 24 _ 0 rfl g4 3 rfl _ Try.underlying24 _ rfl 0 Try.sizeOf3) ?_
 simp only [Act.put, pu]
 refine pw_putv (by rfl) 3 _ _ rfl _ (3) rfl r4 (.int .i64 (sq : Nat)) rfl rfl rfl size1tint (by exact (by decide : 3 < 8)) (msC (kd : Nat) (op : Nat) key (sq : Nat) 0 [] none 0 0 none 0 0) rfl ?_
 clear r4
 intro z7003 r4 k
 simp only [Act.put]
 replace r2 := k.row r2 (by simp <;> omega)
 replace r3 := k.row r3 (by simp <;> omega)
 replace sb := sb.trans (k.below w.heap.size sb.size (by simp <;> omega))
 clear k
 refine pw_nil ?_
 (repeat ((fail_if_success with_reducible refine rg ?_); go_step))
 refine wp_region_pw ?_
 refine pw_callE (by rfl) 30 _ _ rfl Try.func30 (by kernel_rfl) #[.pointer (some ⟨g3, 0, none⟩), .int .i64 1] rfl (snum_cat cl 1 _ g3 _ r3 (by decide) (by decide) hcl) ?_
 have cr3 := r3.lt
 clear r3
 rintro _ z8000 ⟨rfl, r3, k⟩
 refine ⟨_, rfl, ?_⟩
 simp only [Act.put, pu]
 clear cr3
 replace r2 := k.row r2 (by simp <;> omega)
 replace r4 := k.row r4 (by simp <;> omega)
 replace sb := sb.trans (k.below w.heap.size sb.size (by simp <;> omega))
 clear k
 refine pw_value (by rfl) (.pointer (some ⟨g4, 3, none⟩)) (exec_field 29 _ 3 rfl g4 0 rfl _ Try.underlying29 _ rfl 1 Try.sizeOf24) ?_
 simp only [Act.put, pu]
 refine pw_value (by rfl) (.pointer (some ⟨g4, 4, none⟩)) (exec_field 24 _ 1 rfl g4 3 rfl _ Try.underlying24 _ rfl 0 Try.sizeOf3) ?_
 simp only [Act.put, pu]
 refine pw_putv (by rfl) 3 _ _ rfl _ (4) rfl r4 (.int .i64 (cl : Nat)) rfl rfl rfl size1tint (by exact (by decide : 4 < 8)) (msC (kd : Nat) (op : Nat) key (sq : Nat) (cl : Nat) [] none 0 0 none 0 0) rfl ?_
 clear r4
 intro z8003 r4 k
 simp only [Act.put]
 replace r2 := k.row r2 (by simp <;> omega)
 replace r3 := k.row r3 (by simp <;> omega)
 replace sb := sb.trans (k.below w.heap.size sb.size (by simp <;> omega))
 clear k
 refine pw_nil ?_
 (repeat ((fail_if_success with_reducible refine rg ?_); go_step))
 refine wp_region_pw ?_
 refine pw_callE (by rfl) 31 _ _ rfl Try.func31 (by kernel_rfl) #[.pointer (some ⟨g3, 0, none⟩), .int .i64 1] rfl (stext_cat dg 1 _ g3 _ r3 (by decide) (by decide) (by omega)) ?_
 have cr3 := r3.lt
 clear r3
 rintro _ z9000 ⟨rfl, r3, k⟩
 refine ⟨_, rfl, ?_⟩
 simp only [Act.put, pu]
 clear cr3
 replace r2 := k.row r2 (by simp <;> omega)
 replace r4 := k.row r4 (by simp <;> omega)
 replace sb := sb.trans (k.below w.heap.size sb.size (by simp <;> omega))
 clear k
 refine pw_value (by rfl) (.pointer (some ⟨g4, 5, none⟩)) (exec_field 29 _ 4 rfl g4 0 rfl _ Try.underlying29 _ rfl 0 Try.sizeOf9) ?_
 simp only [Act.put, pu]
 refine pw_putv (by rfl) 9 _ _ rfl _ (5) rfl r4 (.string ⟨dg.toArray⟩) rfl rfl rfl size1tstring (by exact (by decide : 5 < 8)) (msC (kd : Nat) (op : Nat) key (sq : Nat) (cl : Nat) dg none 0 0 none 0 0) rfl ?_
 clear r4
 intro z9002 r4 k
 simp only [Act.put]
 replace r2 := k.row r2 (by simp <;> omega)
 replace r3 := k.row r3 (by simp <;> omega)
 replace sb := sb.trans (k.below w.heap.size sb.size (by simp <;> omega))
 clear k
 refine pw_nil ?_
 (repeat ((fail_if_success with_reducible refine rg ?_); go_step))
 refine wp_region_pw ?_
 refine pw_callE (by rfl) 31 _ _ rfl Try.func31 (by kernel_rfl) #[.pointer (some ⟨g3, 0, none⟩), .int .i64 2] rfl (stext_cat [] 2 _ g3 _ r3 (by decide) (by decide) (by decide)) ?_
 have cr3 := r3.lt
 clear r3
 rintro _ z10000 ⟨rfl, r3, k⟩
 refine ⟨_, rfl, ?_⟩
 simp only [Act.put, pu]
 clear cr3
 replace r2 := k.row r2 (by simp <;> omega)
 replace r4 := k.row r4 (by simp <;> omega)
 replace sb := sb.trans (k.below w.heap.size sb.size (by simp <;> omega))
 clear k
 refine pw_as (by rfl) rfl rfl ?_
 simp only [Act.put, pu]
 refine pw_nil ?_
 (repeat ((fail_if_success with_reducible refine rg ?_); go_step))
 refine wp_region_pw ?_
 refine pw_mv (by rfl) rfl rfl ?_
 simp only [Act.put, pu]
 refine pw_value (by rfl) (.bool false) (y_neS _ _ _ _ rfl [] [] rfl rfl false (by simp)) ?_
 simp only [Act.put, pu]
 refine pw_nil ?_
 (repeat ((fail_if_success with_reducible refine rg ?_); go_step))
 refine wp_region_pw ?_
 refine pw_value (by rfl) (.pointer (some ⟨g3, 0, none⟩)) (exec_field 64 _ 0 rfl g3 0 rfl _ Try.underlying64 _ rfl 0 Try.sizeOf9) ?_
 simp only [Act.put, pu]
 refine pw_loadk (by rfl) 9 _ rfl _ (0) rfl r3.r (.string ⟨#[]⟩) rfl Try.isAgg9 ?_
 simp only [Act.put, pu]
 refine pw_value (by rfl) (.bool true) (y_eqS _ _ _ _ rfl [] [] rfl rfl true (by simp)) ?_
 simp only [Act.put, pu]
 refine pw_mv (by rfl) rfl rfl ?_
 simp only [Act.put, pu]
 refine pw_loadm (by rfl) 29 _ rfl _ (0) rfl r4.r (msC (kd : Nat) (op : Nat) key (sq : Nat) (cl : Nat) dg none 0 0 none 0 0) (part_all _) _ Try.underlying29 rfl size_ms ?_
 simp only [Act.put, pu]
 refine pw_callB (by rfl) 11 _ _ rfl Try.func11 (by kernel_rfl) #[.agg (msC (kd : Nat) (op : Nat) key (sq : Nat) (cl : Nat) dg none 0 0 none 0 0)] rfl _ (hC _) ?_
 intro z19005 k
 simp only [Act.put, pu]
 replace r2 := k.row r2 (by simp <;> omega)
 replace r3 := k.row r3 (by simp <;> omega)
 replace r4 := k.row r4 (by simp <;> omega)
 replace sb := sb.trans (k.below w.heap.size sb.size (by simp <;> omega))
 clear k
 refine pw_value (by rfl) (.bool true) (x_eqI _ _ _ _ rfl .i64 0 0 rfl rfl true rfl) ?_
 simp only [Act.put, pu]
 refine pw_pick (by rfl) true (v := .bool true) rfl rfl rfl ?_
 simp only [Act.put, pu]
 refine pw_callB (by rfl) 24 _ _ rfl Try.func24 (by kernel_rfl) #[.bool true, .int .i64 4] rfl _ (insist_any true 4 _) ?_
 intro z19008 k
 simp only [Act.put, pu]
 replace r2 := k.row r2 (by simp <;> omega)
 replace r3 := k.row r3 (by simp <;> omega)
 replace r4 := k.row r4 (by simp <;> omega)
 replace sb := sb.trans (k.below w.heap.size sb.size (by simp <;> omega))
 clear k
 refine pw_nil ?_
 (repeat ((fail_if_success with_reducible refine rg ?_); go_step))
 apply wp_region_mix (by kernel_rfl) [(g4, 29, msC (kd : Nat) (op : Nat) key (sq : Nat) (cl : Nat) dg none 0 0 none 0 0)] [_, _, _, _, _, _, _, _, _, _] ⟨r4, trivial⟩ (by simp <;> omega)
 ·intro p
  refine mx_val (.pointer (some ⟨g4, 2, none⟩)) (exec_field 29 _ 2 rfl g4 0 rfl _ Try.underlying29 _ rfl 0 Try.sizeOf9) ?_
  simp only [Act.put, pu]
  refine mx_loadcT 0 9 _ rfl (2) rfl rfl (.string ⟨key.toArray⟩) rfl Try.isAgg9 ?_
  simp only [Act.put, pu]
  refine mx_call 36 _ _ rfl Try.func36 (by kernel_rfl) #[.string ⟨key.toArray⟩] rfl _ (fun w' => clone_any key w' (by omega)) ?_
  simp only [Act.put, pu]
  refine mx_val (.pointer (some ⟨g4, 5, none⟩)) (exec_field 29 _ 4 rfl g4 0 rfl _ Try.underlying29 _ rfl 0 Try.sizeOf9) ?_
  simp only [Act.put, pu]
  refine mx_loadcT 0 9 _ rfl (5) rfl rfl (.string ⟨dg.toArray⟩) rfl Try.isAgg9 ?_
  simp only [Act.put, pu]
  refine mx_call 36 _ _ rfl Try.func36 (by kernel_rfl) #[.string ⟨dg.toArray⟩] rfl _ (fun w' => clone_any dg w' (by omega)) ?_
  simp only [Act.put, pu]
  refine mx_val (.pointer (some ⟨g4, 2, none⟩)) (exec_field 29 _ 2 rfl g4 0 rfl _ Try.underlying29 _ rfl 0 Try.sizeOf9) ?_
  simp only [Act.put, pu]
  refine mx_putv 0 9 _ _ rfl 2 rfl rfl (.string ⟨key.toArray⟩) rfl rfl rfl size1tstring (by exact (by decide : 2 < 8)) (msC (kd : Nat) (op : Nat) key (sq : Nat) (cl : Nat) dg none 0 0 none 0 0) rfl ?_
  simp only [Act.put]
  refine mx_val (.pointer (some ⟨g4, 5, none⟩)) (exec_field 29 _ 4 rfl g4 0 rfl _ Try.underlying29 _ rfl 0 Try.sizeOf9) ?_
  simp only [Act.put, pu]
  refine mx_putv 0 9 _ _ rfl 5 rfl rfl (.string ⟨dg.toArray⟩) rfl rfl rfl size1tstring (by exact (by decide : 5 < 8)) (msC (kd : Nat) (op : Nat) key (sq : Nat) (cl : Nat) dg none 0 0 none 0 0) rfl ?_
  simp only [Act.put]
  refine mx_end ?_
  intro w20 hkw hrw hnew hdis
  have zr4 : Row w20 (g4) (msC (kd : Nat) (op : Nat) key (sq : Nat) (cl : Nat) dg none 0 0 none 0 0) 29 := hrw 0 (29, msC (kd : Nat) (op : Nat) key (sq : Nat) (cl : Nat) dg none 0 0 none 0 0) rfl
  replace r2 := hkw.row r2 (by simp <;> omega)
  replace sb := sb.trans (hkw.below w.heap.size sb.size (by simp <;> omega))
  clear hkw hrw hnew hdis r4
  have r4 := zr4
  clear zr4
  (repeat ((fail_if_success with_reducible refine rg ?_); go_step))
  refine wp_region_pw ?_
  refine pw_loadm (by rfl) 29 _ rfl _ (0) rfl r4.r (msC (kd : Nat) (op : Nat) key (sq : Nat) (cl : Nat) dg none 0 0 none 0 0) (part_all _) _ Try.underlying29 rfl size_ms ?_
  simp only [Act.put, pu]
  refine pw_put (by rfl) 29 _ _ rfl _ rfl r2 (msC (kd : Nat) (op : Nat) key (sq : Nat) (cl : Nat) dg none 0 0 none 0 0) rfl (by exact size_ms) (by rfl) (ms_one _ _ _ _ _ _ _ _ _ _ _ _) ?_
  clear r2
  intro z21001 r2 k
  simp only [Act.put]
  replace r4 := k.row r4 (by simp <;> omega)
  replace sb := sb.trans (k.below w.heap.size sb.size (by simp <;> omega))
  clear k
  refine pw_nil ?_
  go_wp2
  exact ret_rowd rfl _ rfl r2 _ Try.underlying29 (by exact size_ms) rfl ⟨rfl, sb⟩
 ·kernel_rfl
end Go.Proofs.Ytojobffihlmfgaa
/- wire.Take of a message without a matrix, the document's Same of the same, and what must come whatever the arguments are. -/
namespace Go.Proofs.Ytojobffihlmfgaa
open Go.RowKit
set_option linter.unusedVariables false
set_option linter.unusedSimpArgs false
set_option maxRecDepth 100000 in
set_option maxHeartbeats 2000000 in
theorem tk1_bare (kd op : Nat) (key : List UInt8) (sq cl : Nat) (dg : List UInt8) (N : Nat → Nat) (M : Nat → Nat → Nat) (w : World) (hkd : kd < 256 ^ 1) (hop : op < 256 ^ 4) (hsq : sq < 256 ^ 6) (hcl : cl < 256 ^ 1) (hkey : key.length < 200) (hdg : dg.length < 200)
  (hW : wmB kd op key sq cl dg (brB 0 0) (dlB 0 0 (xmB 0 N M)) = true) (s : List UInt8) (hs : rdL kd op key sq cl dg = s) (g0 g1 : Nat) (hg01 : g0 ≠ g1) (r0 : Row w g0 #[.string ⟨s.toArray⟩] 9) (r1 : Row w g1 (msC 0 0 [] 0 0 [] none 0 0 none 0 0) 29) :
  Calls Try.prog 14 #[.pointer (some ⟨g0, 0, none⟩), .pointer (some ⟨g1, 0, none⟩)] w fun e w' => Kept [g1] w w' ∧ Row w' g1 (msC (kd : Nat) (op : Nat) key (sq : Nat) (cl : Nat) dg none 0 0 none 0 0) 29 ∧ ((e = .returned (.tuple #[]) ∧ (0 : Int) = 0) ∨ e = .panicked (wrP 0)) := by
 subst hs
 have hR := fun w' => read_bare kd op key sq cl dg N M w' hkd hop hsq hcl hkey hdg hW
 generalize rdL kd op key sq cl dg = s at *
 have sk := Kept.refl [g1] w
 have l1 := r1.lt
 go_enter Try.func14, Try.ntmps14
 (repeat ((fail_if_success with_reducible refine rg ?_); go_step))
 refine wp_region_pw ?_
 refine pw_loadk (by rfl) 9 _ rfl _ (0) rfl r0.r (.string ⟨s.toArray⟩) rfl Try.isAgg9 ?_
 simp only [Act.put, pu]
 refine pw_callB (by rfl) 15 _ _ rfl Try.func15 (by kernel_rfl) #[.string ⟨s.toArray⟩] rfl _ (hR _) ?_
 intro z1 k
 simp only [Act.put, pu]
 replace r0 := k.row r0 (by simp <;> omega)
 replace r1 := k.row r1 (by simp <;> omega)
 replace sk := sk.trans k (by simp <;> omega)
 clear k
 refine pw_put (by rfl) 29 _ _ rfl _ rfl r1 (msC (kd : Nat) (op : Nat) key (sq : Nat) (cl : Nat) dg none 0 0 none 0 0) rfl (by exact size_ms) (by rfl) (ms_one _ _ _ _ _ _ _ _ _ _ _ _) ?_
 clear r1
 intro z2 r1 k
 simp only [Act.put]
 replace r0 := k.row r0 (by simp <;> omega)
 replace sk := sk.trans k (by simp <;> omega)
 clear k
 refine pw_nil ?_
 go_wp2
 first | (go_ret; exact ⟨sk, r1, .inl ⟨rfl, by first | trivial | rfl⟩⟩) | exact ⟨rfl, _, results_none rfl _ _ _, sk, r1, .inl ⟨rfl, by first | trivial | rfl⟩⟩
set_option maxRecDepth 100000 in
set_option maxHeartbeats 2000000 in
theorem tk_bare (kd op : Nat) (key : List UInt8) (sq cl : Nat) (dg : List UInt8) (N : Nat → Nat) (M : Nat → Nat → Nat) (w : World) (hkd : kd < 256 ^ 1) (hop : op < 256 ^ 4) (hsq : sq < 256 ^ 6) (hcl : cl < 256 ^ 1) (hkey : key.length < 200) (hdg : dg.length < 200)
  (hW : wmB kd op key sq cl dg (brB 0 0) (dlB 0 0 (xmB 0 N M)) = true) (s : List UInt8) (hs : rdL kd op key sq cl dg = s) :
  Calls Try.prog 6 #[.string ⟨s.toArray⟩] w fun e w' => e = .returned (.tuple #[.agg (msC (kd : Nat) (op : Nat) key (sq : Nat) (cl : Nat) dg none 0 0 none 0 0), .int .i64 0]) ∧ Below w.heap.size w w' := by
 go_enter Try.func6, Try.ntmps6
 (repeat ((fail_if_success with_reducible refine rg ?_); go_step))
 refine wp_region_pw ?_
 refine pw_box1 (by rfl) 9 _ rfl (.string ⟨s.toArray⟩) rfl rfl ?_
 intro g1 z0 n0 r1 k
 simp only [Act.put, pu]
 have b1 : w.heap.size ≤ g1 := n0
 clear n0
 have sb := k.below w.heap.size (Nat.le_refl _) (by simp)
 clear k
 refine pw_new (by rfl) 29 rfl _ zero_ms ?_
 intro g2 z1 n0 r2 k
 simp only [Act.put, pu]
 have d1x2 := Nat.lt_of_lt_of_le r1.lt n0
 have b2 := Nat.le_trans sb.size n0
 clear n0
 replace r1 := k.row r1 (by simp <;> omega)
 replace sb := sb.trans (k.below w.heap.size sb.size (by simp <;> omega))
 clear k
 refine pw_value (by rfl) (.int .i64 0) (fun _ => rfl) ?_
 simp only [Act.put, pu]
 refine pw_nil ?_
 (repeat ((fail_if_success with_reducible refine rg ?_); go_step))
 refine wp_region_pw ?_
 refine pw_new (by rfl) 29 rfl _ zero_ms ?_
 intro g4 z1000 n0 r4 k
 simp only [Act.put, pu]
 have d1x4 := Nat.lt_of_lt_of_le r1.lt n0
 have d2x4 := Nat.lt_of_lt_of_le r2.lt n0
 have b4 := Nat.le_trans sb.size n0
 clear n0
 replace r1 := k.row r1 (by simp <;> omega)
 replace r2 := k.row r2 (by simp <;> omega)
 replace sb := sb.trans (k.below w.heap.size sb.size (by simp <;> omega))
 clear k
 refine pw_nil ?_
 (repeat ((fail_if_success with_reducible refine rg ?_); go_step))
 refine wp_region_pw ?_
 refine pw_value (by rfl) (.func (.func 14) #[] #[.pointer (some ⟨g1, 0, none⟩), .pointer (some ⟨g4, 0, none⟩)]) (x_mkf _ _ rfl _ rfl) ?_
 simp only [Act.put, pu]
 refine pw_callE (by rfl) 13 _ _ rfl Try.func13 (by kernel_rfl) #[.func (.func 14) #[] #[.pointer (some ⟨g1, 0, none⟩), .pointer (some ⟨g4, 0, none⟩)]] rfl (caught_w 14 _ Try.func14 (by kernel_rfl) 0 g4 _ _ _ r4.lt (fun w1 h1 => tk1_bare kd op key sq cl dg N M w1 hkd hop hsq hcl hkey hdg hW s hs g1 g4 (by omega) (r1.belowAll h1) (r4.belowAll h1))) ?_
 have cr4 := r4.lt
 clear r4
 rintro _ z2001 ⟨rfl, r4, k⟩
 refine ⟨_, rfl, ?_⟩
 simp only [Act.put, pu]
 clear cr4
 replace r1 := k.row r1 (by simp <;> omega)
 replace r2 := k.row r2 (by simp <;> omega)
 replace sb := sb.trans (k.below w.heap.size sb.size (by simp <;> omega))
 clear k
 refine pw_as (by rfl) rfl rfl ?_
 simp only [Act.put, pu]
 refine pw_nil ?_
 (repeat ((fail_if_success with_reducible refine rg ?_); go_step))
 refine wp_region_pw ?_
 refine pw_loadm (by rfl) 29 _ rfl _ (0) rfl r4.r (msC (kd : Nat) (op : Nat) key (sq : Nat) (cl : Nat) dg none 0 0 none 0 0) (part_all _) _ Try.underlying29 rfl size_ms ?_
 simp only [Act.put, pu]
 refine pw_mv (by rfl) rfl rfl ?_
 simp only [Act.put, pu]
 refine pw_put (by rfl) 29 _ _ rfl _ rfl r2 (msC (kd : Nat) (op : Nat) key (sq : Nat) (cl : Nat) dg none 0 0 none 0 0) rfl (by exact size_ms) (by rfl) (ms_one _ _ _ _ _ _ _ _ _ _ _ _) ?_
 clear r2
 intro z3002 r2 k
 simp only [Act.put]
 replace r4 := k.row r4 (by simp <;> omega)
 replace sb := sb.trans (k.below w.heap.size sb.size (by simp <;> omega))
 clear k
 refine pw_as (by rfl) rfl rfl ?_
 simp only [Act.put, pu]
 refine pw_nil ?_
 go_wp2
 exact ret_row2d rfl _ rfl r2 _ Try.underlying29 (by exact size_ms) rfl _ rfl ⟨rfl, sb⟩
set_option maxRecDepth 100000 in
set_option maxHeartbeats 2000000 in
theorem rSame_yes (kd op : Int) (key : List UInt8) (sq cl : Int) (dg : List UInt8) (a1 : Option Addr) (n c1 : Nat) (a2 : Option Addr) (m c2 : Nat) (q1 : Option Addr) (f1 : Nat) (q2 : Option Addr) (f2 : Nat) (w : World)
  (hM : ∀ w', Below w.heap.size w w' → Calls Try.prog 25 #[.slice a1 n c1, .slice q1 n f1] w' fun e w2 => e = .returned (.bool true) ∧ Below w'.heap.size w' w2)
  (hY : ∀ w', Below w.heap.size w w' → Calls Try.prog 26 #[.slice a2 m c2, .slice q2 m f2] w' fun e w2 => e = .returned (.bool true) ∧ Below w'.heap.size w' w2) :
  Calls Try.prog 9 #[.agg (msC kd op key sq cl dg a1 n c1 a2 m c2), .agg (msC kd op key sq cl dg q1 n f1 q2 m f2)] w fun e w' => e = .returned (.bool true) ∧ Below w.heap.size w w' := by
 go_enter Try.func9, Try.ntmps9
 (repeat ((fail_if_success with_reducible refine rg ?_); go_step))
 refine wp_region_pw ?_
 refine pw_boxr (by rfl) 29 _ rfl (msC kd op key sq cl dg a1 n c1 a2 m c2) rfl ?_
 intro g2 z0 n0 r2 k
 simp only [Act.put, pu]
 have b2 : w.heap.size ≤ g2 := n0
 clear n0
 have sb := k.below w.heap.size (Nat.le_refl _) (by simp)
 clear k
 refine pw_boxr (by rfl) 29 _ rfl (msC kd op key sq cl dg q1 n f1 q2 m f2) rfl ?_
 intro g3 z1 n0 r3 k
 simp only [Act.put, pu]
 have d2x3 := Nat.lt_of_lt_of_le r2.lt n0
 have b3 := Nat.le_trans sb.size n0
 clear n0
 replace r2 := k.row r2 (by simp <;> omega)
 replace sb := sb.trans (k.below w.heap.size sb.size (by simp <;> omega))
 clear k
 refine pw_value (by rfl) (.bool false) (fun _ => rfl) ?_
 simp only [Act.put, pu]
 refine pw_nil ?_
 (repeat ((fail_if_success with_reducible refine rg ?_); go_step))
 refine wp_region_pw ?_
 refine pw_value (by rfl) (.pointer (some ⟨g2, 0, none⟩)) (exec_field 29 _ 0 rfl g2 0 rfl _ Try.underlying29 _ rfl 0 Try.sizeOf3) ?_
 simp only [Act.put, pu]
 refine pw_loadk (by rfl) 3 _ rfl _ (0) rfl r2.r (.int .i64 kd) rfl Try.isAgg3 ?_
 simp only [Act.put, pu]
 refine pw_value (by rfl) (.pointer (some ⟨g3, 0, none⟩)) (exec_field 29 _ 0 rfl g3 0 rfl _ Try.underlying29 _ rfl 0 Try.sizeOf3) ?_
 simp only [Act.put, pu]
 refine pw_loadk (by rfl) 3 _ rfl _ (0) rfl r3.r (.int .i64 kd) rfl Try.isAgg3 ?_
 simp only [Act.put, pu]
 refine pw_value (by rfl) (.bool true) (x_eqI _ _ _ _ rfl .i64 kd kd rfl rfl true (decide_eq_true rfl)) ?_
 simp only [Act.put, pu]
 refine pw_mv (by rfl) rfl rfl ?_
 simp only [Act.put, pu]
 refine pw_value (by rfl) (.pointer (some ⟨g2, 1, none⟩)) (exec_field 29 _ 1 rfl g2 0 rfl _ Try.underlying29 _ rfl 0 Try.sizeOf3) ?_
 simp only [Act.put, pu]
 refine pw_loadk (by rfl) 3 _ rfl _ (1) rfl r2.r (.int .i64 op) rfl Try.isAgg3 ?_
 simp only [Act.put, pu]
 refine pw_value (by rfl) (.pointer (some ⟨g3, 1, none⟩)) (exec_field 29 _ 1 rfl g3 0 rfl _ Try.underlying29 _ rfl 0 Try.sizeOf3) ?_
 simp only [Act.put, pu]
 refine pw_loadk (by rfl) 3 _ rfl _ (1) rfl r3.r (.int .i64 op) rfl Try.isAgg3 ?_
 simp only [Act.put, pu]
 refine pw_value (by rfl) (.bool true) (x_eqI _ _ _ _ rfl .i64 op op rfl rfl true (decide_eq_true rfl)) ?_
 simp only [Act.put, pu]
 refine pw_pick (by rfl) true (v := .bool true) rfl rfl rfl ?_
 simp only [Act.put, pu]
 refine pw_mv (by rfl) rfl rfl ?_
 simp only [Act.put, pu]
 refine pw_value (by rfl) (.pointer (some ⟨g2, 2, none⟩)) (exec_field 29 _ 2 rfl g2 0 rfl _ Try.underlying29 _ rfl 0 Try.sizeOf9) ?_
 simp only [Act.put, pu]
 refine pw_loadk (by rfl) 9 _ rfl _ (2) rfl r2.r (.string ⟨key.toArray⟩) rfl Try.isAgg9 ?_
 simp only [Act.put, pu]
 refine pw_value (by rfl) (.pointer (some ⟨g3, 2, none⟩)) (exec_field 29 _ 2 rfl g3 0 rfl _ Try.underlying29 _ rfl 0 Try.sizeOf9) ?_
 simp only [Act.put, pu]
 refine pw_loadk (by rfl) 9 _ rfl _ (2) rfl r3.r (.string ⟨key.toArray⟩) rfl Try.isAgg9 ?_
 simp only [Act.put, pu]
 refine pw_value (by rfl) (.bool true) (exec_eql_str _ _ _ _ rfl _ rfl rfl) ?_
 simp only [Act.put, pu]
 refine pw_pick (by rfl) true (v := .bool true) rfl rfl rfl ?_
 simp only [Act.put, pu]
 refine pw_mv (by rfl) rfl rfl ?_
 simp only [Act.put, pu]
 refine pw_value (by rfl) (.pointer (some ⟨g2, 3, none⟩)) (exec_field 29 _ 3 rfl g2 0 rfl _ Try.underlying29 _ rfl 1 Try.sizeOf24) ?_
 simp only [Act.put, pu]
 refine pw_loadm (by rfl) 24 _ rfl _ (3) rfl r2.r (tsC sq cl) (ms_st _ _ _ _ _ _ _ _ _ _ _ _) _ Try.underlying24 rfl size_st ?_
 simp only [Act.put, pu]
 refine pw_value (by rfl) (.pointer (some ⟨g3, 3, none⟩)) (exec_field 29 _ 3 rfl g3 0 rfl _ Try.underlying29 _ rfl 1 Try.sizeOf24) ?_
 simp only [Act.put, pu]
 refine pw_loadm (by rfl) 24 _ rfl _ (3) rfl r3.r (tsC sq cl) (ms_st _ _ _ _ _ _ _ _ _ _ _ _) _ Try.underlying24 rfl size_st ?_
 simp only [Act.put, pu]
 refine pw_value (by rfl) (.bool true) (exec_eql_st _ _ _ rfl sq cl sq cl rfl rfl true (decide_eq_true ⟨rfl, rfl⟩)) ?_
 simp only [Act.put, pu]
 refine pw_pick (by rfl) true (v := .bool true) rfl rfl rfl ?_
 simp only [Act.put, pu]
 refine pw_mv (by rfl) rfl rfl ?_
 simp only [Act.put, pu]
 refine pw_value (by rfl) (.pointer (some ⟨g2, 5, none⟩)) (exec_field 29 _ 4 rfl g2 0 rfl _ Try.underlying29 _ rfl 0 Try.sizeOf9) ?_
 simp only [Act.put, pu]
 refine pw_loadk (by rfl) 9 _ rfl _ (5) rfl r2.r (.string ⟨dg.toArray⟩) rfl Try.isAgg9 ?_
 simp only [Act.put, pu]
 refine pw_value (by rfl) (.pointer (some ⟨g3, 5, none⟩)) (exec_field 29 _ 4 rfl g3 0 rfl _ Try.underlying29 _ rfl 0 Try.sizeOf9) ?_
 simp only [Act.put, pu]
 refine pw_loadk (by rfl) 9 _ rfl _ (5) rfl r3.r (.string ⟨dg.toArray⟩) rfl Try.isAgg9 ?_
 simp only [Act.put, pu]
 refine pw_value (by rfl) (.bool true) (exec_eql_str _ _ _ _ rfl _ rfl rfl) ?_
 simp only [Act.put, pu]
 refine pw_pick (by rfl) true (v := .bool true) rfl rfl rfl ?_
 simp only [Act.put, pu]
 refine pw_mv (by rfl) rfl rfl ?_
 simp only [Act.put, pu]
 refine pw_value (by rfl) (.pointer (some ⟨g2, 6, none⟩)) (exec_field 29 _ 5 rfl g2 0 rfl _ Try.underlying29 _ rfl 0 Try.sizeOf26) ?_
 simp only [Act.put, pu]
 refine pw_loadk (by rfl) 26 _ rfl _ (6) rfl r2.r (.slice a1 n c1) rfl Try.isAgg26 ?_
 simp only [Act.put, pu]
 refine pw_value (by rfl) (.pointer (some ⟨g3, 6, none⟩)) (exec_field 29 _ 5 rfl g3 0 rfl _ Try.underlying29 _ rfl 0 Try.sizeOf26) ?_
 simp only [Act.put, pu]
 refine pw_loadk (by rfl) 26 _ rfl _ (6) rfl r3.r (.slice q1 n f1) rfl Try.isAgg26 ?_
 simp only [Act.put, pu]
 refine pw_callB (by rfl) 25 _ _ rfl Try.func25 (by kernel_rfl) #[.slice a1 n c1, .slice q1 n f1] rfl _ (hM _ sb) ?_
 intro z1038 k
 simp only [Act.put, pu]
 replace r2 := k.row r2 (by simp <;> omega)
 replace r3 := k.row r3 (by simp <;> omega)
 replace sb := sb.trans (k.below w.heap.size sb.size (by simp <;> omega))
 clear k
 refine pw_pick (by rfl) true (v := .bool true) rfl rfl rfl ?_
 simp only [Act.put, pu]
 refine pw_mv (by rfl) rfl rfl ?_
 simp only [Act.put, pu]
 refine pw_value (by rfl) (.pointer (some ⟨g2, 7, none⟩)) (exec_field 29 _ 6 rfl g2 0 rfl _ Try.underlying29 _ rfl 0 Try.sizeOf27) ?_
 simp only [Act.put, pu]
 refine pw_loadk (by rfl) 27 _ rfl _ (7) rfl r2.r (.slice a2 m c2) rfl Try.isAgg27 ?_
 simp only [Act.put, pu]
 refine pw_value (by rfl) (.pointer (some ⟨g3, 7, none⟩)) (exec_field 29 _ 6 rfl g3 0 rfl _ Try.underlying29 _ rfl 0 Try.sizeOf27) ?_
 simp only [Act.put, pu]
 refine pw_loadk (by rfl) 27 _ rfl _ (7) rfl r3.r (.slice q2 m f2) rfl Try.isAgg27 ?_
 simp only [Act.put, pu]
 refine pw_callB (by rfl) 26 _ _ rfl Try.func26 (by kernel_rfl) #[.slice a2 m c2, .slice q2 m f2] rfl _ (hY _ sb) ?_
 intro z1045 k
 simp only [Act.put, pu]
 replace r2 := k.row r2 (by simp <;> omega)
 replace r3 := k.row r3 (by simp <;> omega)
 replace sb := sb.trans (k.below w.heap.size sb.size (by simp <;> omega))
 clear k
 refine pw_pick (by rfl) true (v := .bool true) rfl rfl rfl ?_
 simp only [Act.put, pu]
 refine pw_as (by rfl) rfl rfl ?_
 simp only [Act.put, pu]
 refine pw_nil ?_
 go_wp2
 go_ret
 exact ⟨rfl, sb⟩
theorem ysA_nil (w : World) (Y : Nat → Nat) : YsA w none 0 Y := ⟨0, 0, #[], 0, ⟨.inl rfl, fun i hi => absurd hi (Nat.not_lt_zero i)⟩⟩
theorem aw_wm : wmB ((1 : Nat) : Int) ((1 : Nat) : Int) [107] ((0 : Nat) : Int) ((0 : Nat) : Int) [] (brB 0 0) (dlB 0 0 (xmB 0 (fun _ => 0) (fun _ _ => 0))) = true := by kernel_rfl
theorem aw_put (w : World) : Calls Try.prog 8 #[.agg (msC 1 1 [107] 0 0 [] none 0 0 none 0 0)] w fun e w' => e = .returned (.tuple #[.string ⟨#[1, 0, 0, 0, 1, 1, 107, 0, 0, 0, 0, 0, 0, 0, 0, 0, 0]⟩, .int .i64 0]) ∧ Below w.heap.size w w' := by
 have h := wPut_any 1 1 [107] 0 0 [] none 0 0 none 0 0 (fun _ => 0) (fun _ _ => 0) (fun _ => 0) w (by decide) (by decide) (mtA_nil w _ _) (ysA_nil w _)
 rw [show wmB 1 1 [107] 0 0 [] (brB 0 0) (dlB 0 0 (xmB 0 (fun _ => 0) (fun _ _ => 0))) = true from aw_wm] at h
 rw [show msL (1 : Int).toNat (1 : Int).toNat [107] (0 : Int).toNat (0 : Int).toNat [] (xmB 0 (fun _ => 0) (fun _ _ => 0)) 0 (fun _ => 0) = [1, 0, 0, 0, 1, 1, 107, 0, 0, 0, 0, 0, 0, 0, 0, 0, 0] by kernel_rfl] at h
 exact h
theorem aw_take (w : World) : Calls Try.prog 6 #[.string ⟨#[1, 0, 0, 0, 1, 1, 107, 0, 0, 0, 0, 0, 0, 0, 0, 0, 0]⟩] w fun e w' => e = .returned (.tuple #[.agg (msC 1 1 [107] 0 0 [] none 0 0 none 0 0), .int .i64 0]) ∧ Below w.heap.size w w' :=
 tk_bare 1 1 [107] 0 0 [] (fun _ => 0) (fun _ _ => 0) w (by decide) (by decide) (by decide) (by decide) (by decide) (by decide) aw_wm [1, 0, 0, 0, 1, 1, 107, 0, 0, 0, 0, 0, 0, 0, 0, 0, 0] (by kernel_rfl)
theorem aw_check (w : World) : Calls Try.prog 11 #[.agg (msC 0 0 [] 0 0 [] none 0 0 none 0 0)] w fun e w' => e = .returned (.int .i64 1) ∧ Below w.heap.size w w' := by
 have h := wCheck_any 0 0 [] 0 0 [] none 0 0 none 0 0 (fun _ => 0) (fun _ _ => 0) w (by decide) (by decide) (mtA_nil w _ _)
 rw [show wmB 0 0 [] 0 0 [] (brB 0 0) (dlB 0 0 (xmB 0 (fun _ => 0) (fun _ _ => 0))) = false by kernel_rfl] at h
 exact h
theorem aw_same (w : World) : Calls Try.prog 9 #[.agg (msC 1 1 [107] 0 0 [] none 0 0 none 0 0), .agg (msC 1 1 [107] 0 0 [] none 0 0 none 0 0)] w fun e w' => e = .returned (.bool true) ∧ Below w.heap.size w w' :=
 rSame_yes 1 1 [107] 0 0 [] none 0 0 none 0 0 none 0 none 0 w
  (fun w' _ => rmsame_yes none none 0 0 0 (fun _ => .nilIface) (fun _ => .nilIface) 0 0 0 0 #[] #[] 0 0 (fun _ => 0) (fun _ _ => 0) w' (by decide) (fun i hi => absurd hi (Nat.not_lt_zero i)) ⟨.inl rfl⟩ ⟨.inl rfl⟩ (fun i hi => absurd hi (Nat.not_lt_zero i)) (fun i hi => absurd hi (Nat.not_lt_zero i)))
  (fun w' _ => rsame_yes 0 0 0 none none (fun _ => 0) 0 0 0 0 #[] #[] 0 0 w' (by decide) ⟨.inl rfl, fun i hi => absurd hi (Nat.not_lt_zero i)⟩ ⟨.inl rfl, fun i hi => absurd hi (Nat.not_lt_zero i)⟩)
theorem built_aw : Try.prog.built 29 [(0, .int .i64 1), (1, .int .i64 1), (2, .string ⟨#[107]⟩)] = some (msC 1 1 [107] 0 0 [] none 0 0 none 0 0) := by kernel_rfl
theorem built_ms0 : Try.prog.built 29 [] = some (msC 0 0 [] 0 0 [] none 0 0 none 0 0) := by kernel_rfl
set_option maxRecDepth 100000 in
set_option maxHeartbeats 2000000 in
theorem awake18_any (w : World) : Calls Try.prog 5 #[] w fun e w' => e = .returned (.bool true) ∧ Below w.heap.size w w' := by
 have sb := Below.refl w.heap.size w
 go_enter Try.func5, Try.ntmps5
 (repeat ((fail_if_success with_reducible refine rg ?_); go_step))
 refine wp_region_pw ?_
 refine pw_value (by rfl) (.bool false) (fun _ => rfl) ?_
 simp only [Act.put, List.setIfInBounds_toArray, List.set_cons_zero]
 refine pw_nil ?_
 (repeat ((fail_if_success with_reducible refine rg ?_); go_step))
 refine wp_region_pw ?_
 refine pw_value (by rfl) (.agg (msC 1 1 [107] 0 0 [] none 0 0 none 0 0)) (exec_buildv _ [(0, _), (1, _), (2, _)] rfl [(0, .int .i64 1), (1, .int .i64 1), (2, .string ⟨#[107]⟩)] rfl _ built_aw) ?_
 simp only [Act.put, pu]
 refine pw_new (by rfl) 29 rfl _ zero_ms ?_
 intro g1 z1001 n0 r1 k
 simp only [Act.put, pu]
 have b1 := Nat.le_trans sb.size n0
 clear n0
 replace sb := sb.trans (k.below w.heap.size sb.size (by simp <;> omega))
 clear k
 refine pw_put (by rfl) 29 _ _ rfl _ rfl r1 (msC 1 1 [107] 0 0 [] none 0 0 none 0 0) rfl (by exact size_ms) (by rfl) (ms_one _ _ _ _ _ _ _ _ _ _ _ _) ?_
 clear r1
 intro z1002 r1 k
 simp only [Act.put]
 replace sb := sb.trans (k.below w.heap.size sb.size (by simp <;> omega))
 clear k
 refine pw_nil ?_
 (repeat ((fail_if_success with_reducible refine rg ?_); go_step))
 refine wp_region_pw ?_
 refine pw_loadm (by rfl) 29 _ rfl _ (0) rfl r1.r (msC 1 1 [107] 0 0 [] none 0 0 none 0 0) (part_all _) _ Try.underlying29 rfl size_ms ?_
 simp only [Act.put, pu]
 refine pw_callB (by rfl) 8 _ _ rfl Try.func8 (by kernel_rfl) #[.agg (msC 1 1 [107] 0 0 [] none 0 0 none 0 0)] rfl _ (aw_put _) ?_
 intro z2001 k
 simp only [Act.put, pu]
 replace r1 := k.row r1 (by simp <;> omega)
 replace sb := sb.trans (k.below w.heap.size sb.size (by simp <;> omega))
 clear k
 refine pw_mv (by rfl) rfl rfl ?_
 simp only [Act.put, pu]
 refine pw_ext (by rfl) rfl rfl rfl ?_
 simp only [Act.put, pu]
 refine pw_ext (by rfl) rfl rfl rfl ?_
 simp only [Act.put, pu]
 refine pw_as (by rfl) rfl rfl ?_
 simp only [Act.put, pu]
 refine pw_as (by rfl) rfl rfl ?_
 simp only [Act.put, pu]
 refine pw_nil ?_
 (repeat ((fail_if_success with_reducible refine rg ?_); go_step))
 refine wp_region_pw ?_
 refine pw_mv (by rfl) rfl rfl ?_
 simp only [Act.put, pu]
 refine pw_callB (by rfl) 6 _ _ rfl Try.func6 (by kernel_rfl) #[.string ⟨#[1, 0, 0, 0, 1, 1, 107, 0, 0, 0, 0, 0, 0, 0, 0, 0, 0]⟩] rfl _ (aw_take _) ?_
 intro z3001 k
 simp only [Act.put, pu]
 replace r1 := k.row r1 (by simp <;> omega)
 replace sb := sb.trans (k.below w.heap.size sb.size (by simp <;> omega))
 clear k
 refine pw_mv (by rfl) rfl rfl ?_
 simp only [Act.put, pu]
 refine pw_ext (by rfl) rfl rfl rfl ?_
 simp only [Act.put, pu]
 refine pw_ext (by rfl) rfl rfl rfl ?_
 simp only [Act.put, pu]
 refine pw_new (by rfl) 29 rfl _ zero_ms ?_
 intro g4 z3005 n0 r4 k
 simp only [Act.put, pu]
 have d1x4 := Nat.lt_of_lt_of_le r1.lt n0
 have b4 := Nat.le_trans sb.size n0
 clear n0
 replace r1 := k.row r1 (by simp <;> omega)
 replace sb := sb.trans (k.below w.heap.size sb.size (by simp <;> omega))
 clear k
 refine pw_put (by rfl) 29 _ _ rfl _ rfl r4 (msC 1 1 [107] 0 0 [] none 0 0 none 0 0) rfl (by exact size_ms) (by rfl) (ms_one _ _ _ _ _ _ _ _ _ _ _ _) ?_
 clear r4
 intro z3006 r4 k
 simp only [Act.put]
 replace r1 := k.row r1 (by simp <;> omega)
 replace sb := sb.trans (k.below w.heap.size sb.size (by simp <;> omega))
 clear k
 refine pw_as (by rfl) rfl rfl ?_
 simp only [Act.put, pu]
 refine pw_nil ?_
 (repeat ((fail_if_success with_reducible refine rg ?_); go_step))
 refine wp_region_pw ?_
 refine pw_mv (by rfl) rfl rfl ?_
 simp only [Act.put, pu]
 refine pw_value (by rfl) (.bool true) (x_eqI _ _ _ _ rfl .i64 0 0 rfl rfl true rfl) ?_
 simp only [Act.put, pu]
 refine pw_mv (by rfl) rfl rfl ?_
 simp only [Act.put, pu]
 refine pw_mv (by rfl) rfl rfl ?_
 simp only [Act.put, pu]
 refine pw_value (by rfl) (.bool true) (exec_eql_str _ _ _ _ rfl _ rfl rfl) ?_
 simp only [Act.put, pu]
 refine pw_pick (by rfl) true (v := .bool true) rfl rfl rfl ?_
 simp only [Act.put, pu]
 refine pw_mv (by rfl) rfl rfl ?_
 simp only [Act.put, pu]
 refine pw_mv (by rfl) rfl rfl ?_
 simp only [Act.put, pu]
 refine pw_value (by rfl) (.bool true) (x_eqI _ _ _ _ rfl .i64 0 0 rfl rfl true rfl) ?_
 simp only [Act.put, pu]
 refine pw_pick (by rfl) true (v := .bool true) rfl rfl rfl ?_
 simp only [Act.put, pu]
 refine pw_mv (by rfl) rfl rfl ?_
 simp only [Act.put, pu]
 refine pw_loadm (by rfl) 29 _ rfl _ (0) rfl r4.r (msC 1 1 [107] 0 0 [] none 0 0 none 0 0) (part_all _) _ Try.underlying29 rfl size_ms ?_
 simp only [Act.put, pu]
 refine pw_loadm (by rfl) 29 _ rfl _ (0) rfl r1.r (msC 1 1 [107] 0 0 [] none 0 0 none 0 0) (part_all _) _ Try.underlying29 rfl size_ms ?_
 simp only [Act.put, pu]
 refine pw_callB (by rfl) 9 _ _ rfl Try.func9 (by kernel_rfl) #[.agg (msC 1 1 [107] 0 0 [] none 0 0 none 0 0), .agg (msC 1 1 [107] 0 0 [] none 0 0 none 0 0)] rfl _ (aw_same _) ?_
 intro z4013 k
 simp only [Act.put, pu]
 replace r1 := k.row r1 (by simp <;> omega)
 replace r4 := k.row r4 (by simp <;> omega)
 replace sb := sb.trans (k.below w.heap.size sb.size (by simp <;> omega))
 clear k
 refine pw_pick (by rfl) true (v := .bool true) rfl rfl rfl ?_
 simp only [Act.put, pu]
 refine pw_mv (by rfl) rfl rfl ?_
 simp only [Act.put, pu]
 refine pw_value (by rfl) (.agg (msC 0 0 [] 0 0 [] none 0 0 none 0 0)) (exec_buildv _ [] rfl [] rfl _ built_ms0) ?_
 simp only [Act.put, pu]
 refine pw_callB (by rfl) 11 _ _ rfl Try.func11 (by kernel_rfl) #[.agg (msC 0 0 [] 0 0 [] none 0 0 none 0 0)] rfl _ (aw_check _) ?_
 intro z4017 k
 simp only [Act.put, pu]
 replace r1 := k.row r1 (by simp <;> omega)
 replace r4 := k.row r4 (by simp <;> omega)
 replace sb := sb.trans (k.below w.heap.size sb.size (by simp <;> omega))
 clear k
 refine pw_value (by rfl) (.bool true) (x_eqI _ _ _ _ rfl .i64 1 1 rfl rfl true rfl) ?_
 simp only [Act.put, pu]
 refine pw_pick (by rfl) true (v := .bool true) rfl rfl rfl ?_
 simp only [Act.put, pu]
 refine pw_mv (by rfl) rfl rfl ?_
 simp only [Act.put, pu]
 refine pw_callB (by rfl) 12 _ _ rfl Try.func12 (by kernel_rfl) #[.string ⟨#[107]⟩] rfl _ (wkey_any [107] _ (by decide)) ?_
 intro z4021 k
 simp only [Act.put, pu]
 replace r1 := k.row r1 (by simp <;> omega)
 replace r4 := k.row r4 (by simp <;> omega)
 replace sb := sb.trans (k.below w.heap.size sb.size (by simp <;> omega))
 clear k
 refine pw_pick (by rfl) true (v := .bool true) rfl rfl rfl ?_
 simp only [Act.put, pu]
 refine pw_mv (by rfl) rfl rfl ?_
 simp only [Act.put, pu]
 refine pw_callB (by rfl) 12 _ _ rfl Try.func12 (by kernel_rfl) #[.string ⟨#[]⟩] rfl _ (wkey_any [] _ (by decide)) ?_
 intro z4024 k
 simp only [Act.put, pu]
 replace r1 := k.row r1 (by simp <;> omega)
 replace r4 := k.row r4 (by simp <;> omega)
 replace sb := sb.trans (k.below w.heap.size sb.size (by simp <;> omega))
 clear k
 refine pw_value (by rfl) (.bool true) (exec_not _ _ rfl false rfl) ?_
 simp only [Act.put, pu]
 refine pw_pick (by rfl) true (v := .bool true) rfl rfl rfl ?_
 simp only [Act.put, pu]
 refine pw_as (by rfl) rfl rfl ?_
 simp only [Act.put, List.setIfInBounds_toArray, List.set_cons_zero]
 refine pw_nil ?_
 go_wp2
 go_ret
 exact ⟨rfl, sb⟩
end Go.Proofs.Ytojobffihlmfgaa
