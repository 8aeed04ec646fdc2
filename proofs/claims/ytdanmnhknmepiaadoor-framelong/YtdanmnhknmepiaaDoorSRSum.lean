/- The document's Sum. -/
import Derived.Test.YtdanmnhknmepiaaDoorSPad
import Derived.Test.YtdanmnhknmepiaaDoorSBlock
import Derived.Test.YtdanmnhknmepiaaDoorSSum2
namespace Go.Proofs.YtdanmnhknmepiaaDoor
open Go.RowKit
set_option linter.unusedVariables false
section
variable {P : Program} {o : Oper} {ρ : Operand → Value} {ops : Array Oper} {Q : Exit → Act → World → Prop} {rest : List Oper} {a : Act} {w : World}
theorem x_sliceL (t e : TypeId) (x lo hi : Operand) (hu : P.underlying t = some (.slice e)) (hz : ∀ w, (sizeOf e).run P w = .ok 1 w) (ho : o.op = .slice t x (some lo) (some hi) none) (g off n cap l h : Nat) (hx : ρ x = .slice (some ⟨g, off, none⟩) n cap) (hl : ρ lo = .int .i64 l) (hh : ρ hi = .int .i64 h)
  (h1 : l ≤ h) (h2 : h ≤ cap) (h3 : l < cap) (w : World) : (execOp ρ o).run P w = .ok (.value (.slice (some ⟨g, off + l, none⟩) (h - l) (cap - l))) w := by
 have hE : P.elem t = e := by simp [Program.elem, hu]
 have hu' : P.underlying t = some (.slice (P.elem t)) := by rw [hE]; exact hu
 have hr : (Instr.sliceAt t (.slice (some ⟨g, off, none⟩) n cap) (some (.int .i64 l)) (some (.int .i64 h)) none).run P w = .ok (.slice (some ⟨g, off + l, none⟩) (h - l) (cap - l)) w := by
  rw [run_sliceAt_slice w t _ _ _ _ hu', run_slice_lh (P := P) w t (some ⟨g, off, none⟩) n cap hu' .i64 .i64 l h (by omega) (by omega) (by omega), hE, hz]
  unfold sliced
  simp only [Int.toNat_natCast, Result.andThen_ok, Option.map_some]
  rw [if_neg (by omega), Nat.mul_one, Addr.add_mid]
 unfold execOp
 simp only [ho, hx, hl, hh, Option.map_some, Option.map_none, Sem.run_bind, hr, Result.andThen_ok]
 rfl
theorem pw_loadc (hw : Region.wanted o (yielded ops a.tmps) = true) (ty : TypeId) (x : Operand) (ho : o.op = .load ty x) (g i : Nat) (hx : a.eval x = .pointer (some ⟨g, i, none⟩)) {t : TypeId} {cs : Array Value} (hg : RowR w g cs t) (v : Value) (hc : cs[i]? = some v)
  (ha : ∀ w, (isAgg ty).run P w = .ok false w) (h : PW P ops Q rest (a.put o.dst v) w) : PW P ops Q (o :: rest) a w := by
 refine pw_run hw v w ?_ h
 unfold execOp
 simp only [ho, hx, Instr.loadAt, Instr.sureAddr, Sem.run_bind, Sem.run_pure, Result.andThen_ok, run_load_cell w g i ty v ha ((hg.cell i).trans hc)]
end
theorem OB.ne_row {w : World} {base : Nat} {v : Value} {l : List UInt8} (h : OB w base v l) {b : Nat} {cs : Array Value} {t : TypeId} (r : Row w b cs t) (ht : t ≠ 5) : v.ownBlock ≠ some b := by
 rcases h with ⟨rfl, _⟩ | ⟨g, cap, cur, fr, rfl, hb, hg, _⟩
 ·simp [Value.ownBlock]
 ·intro e
  simp only [Value.ownBlock, Option.some.injEq] at e
  subst e
  rw [r] at hg
  simp only [Option.some.injEq, Obj.cells.injEq] at hg
  exact ht hg.2.1
theorem Row.grown {w w' : World} {row : Option Nat} {b : Nat} {cs : Array Value} {t : TypeId} (r : Row w b cs t) (hg : w.grownBy w' row) (hne : row ≠ some b) : Row w' b cs t := (hg.block b r.lt fun e => hne e.symm).trans r
/-- What Sum holds on to behind the blocks. -/
structure RsH (wr w : World) (g4 : Nat) (V : Nat → Nat) (v : Value) (n : Nat) : Prop where
 own : OB wr w.heap.size v ((outL V).take n)
 r : Row wr g4 (rC .i64 8 V) 61
 below : Below w.heap.size w wr
theorem take_out (V : Nat → Nat) (k j : Nat) (hk : k < 8) (hj : j < 4) : (outL V).take (k * 4 + j) ++ [UInt8.ofNat (V k / 2 ^ (8 * (3 - j)) % 256)] = (outL V).take (k * 4 + (j + 1)) := by
 rw [show k * 4 + (j + 1) = k * 4 + j + 1 by omega, List.take_succ_eq_append_getElem (by rw [outL_length]; omega)]
 congr 1
 simp [outL]
 rw [show (k * 4 + j) / 4 = k by omega, Nat.mod_eq_of_lt hj]
set_option maxRecDepth 100000 in
set_option maxHeartbeats 2000000 in
theorem rsum_any (l : List UInt8) (w : World) (hl : l.length < 4294967296) :
  Calls Tryd.prog 33 #[.string ⟨l.toArray⟩] w fun e w' => e = .returned (.string ⟨(sha l).toArray⟩) ∧ Below w.heap.size w w' := by
 have hz64 : zs l.length < 64 := by unfold zs; omega
 have hlen : (l ++ tl l.length).length = l.length + (9 + zs l.length) := by rw [List.length_append, tl_length]
 have hfull : (l ++ tl l.length).length % 64 = 0 := by rw [List.length_append]; exact full_mod _
 go_enter Tryd.func33, Tryd.ntmps33
 go_wp2_with fail
 refine (rpad_any l _ (by omega)).mono ?_
 rintro _ w2 ⟨v, rfl, own, sb⟩
 have HV : Hid (sha l = outL (ab (bf (l ++ tl l.length)) ((l ++ tl l.length).length / 64))) := rfl
 generalize l ++ tl l.length = L at *
 rcases own with ⟨_, rfl⟩ | ⟨gb, cap, cur, fr, rfl, hgb, hrow, hnc, hcm, hcs, hcell, _⟩
 ·simp at hlen; omega
 have rB : RowR w2 gb cur 5 := ⟨fr, hrow⟩
 clear hrow
 dsimp only
 (repeat ((fail_if_success with_reducible refine rg ?_); go_step))
 apply wp_region_mixp [] [_, _, _] trivial List.nodup_nil
 ·intro p
  refine mx_call 39 _ _ rfl Tryd.func39 (by kernel_rfl) #[] rfl _ (fun w' => rfirst_any w') ?_
  simp only [Act.put, pu]
  refine mx_new 61 rfl _ zero_8i ?_
  simp only [Act.put, pu]
  refine mx_put 3 61 _ _ rfl rfl rfl (rC .i64 8 ivf) rfl (by rw [rC_size]; exact size_8i) (by simp only [rC_size]) (rC_one _ _ _) ?_
  simp only [Act.put]
  refine mx_end ?_
  intro w3 hkw hrw hnew hdis
  have n4 := hnew 1 rfl
  have r4 : Row w3 (p 1) (rC .i64 8 ivf) 61 := hrw 3 (61, rC .i64 8 ivf) rfl
  have lB := rB.lt
  replace rB := hkw.rowR rB (by simp)
  have b4 := Nat.le_trans sb.size n4
  have d4 : gb ≠ p 1 := by omega
  replace sb := sb.trans (hkw.below w.heap.size sb.size (by simp))
  clear hkw hrw hnew hdis n4 lB
  generalize p 1 = g4 at *
  generalize hm : L.length / 64 = m at *
  have HB : Hid (L.length = 64 * m ∧ L.length ≤ cap ∧ m < 4294967296 ∧ w.heap.size ≤ g4 ∧ gb ≠ g4 ∧ (∀ j, j < L.length → cur[j]? = some (.int .u8 (bf L j : Nat)))) := ⟨by omega, hnc, by omega, b4, d4, hcell⟩
  have H0 : Row w3 g4 (rC .i64 8 (ab (bf L) 0)) 61 := r4
  have H1 : RowR w3 gb cur 5 := rB
  have H2 := sb
  clear r4 rB sb hnc hcm hcs hcell b4 d4 hm hlen hfull hgb hz64 hl
  go_wp2_with fail
  go_loopg [5] m (fun g s5 wr => ∃ k : Nat, k + g = m ∧ s5 = .int .i64 (64 * k : Nat) ∧ Row wr g4 (rC .i64 8 (ab (bf L) k)) 61 ∧ RowR wr gb cur 5 ∧ Below w.heap.size w wr)
  case atStart => exact ⟨0, by omega, rfl, H0, H1, H2⟩
  case round =>
   obtain ⟨k, hk, rfl, r4, rB, sb⟩ := hrel
   obtain ⟨z1, z2, z3, z4, z5, z6⟩ := HB.out
   clear H0 H1 H2
   cases gk with
   | zero =>
    obtain rfl : k = m := by omega
    clear hk
    have HV2 : Hid (∀ i, ab (bf L) k i < 4294967296) := ab_lt _ _
    (repeat ((fail_if_success with_reducible refine rg ?_); go_step))
    apply wp_region_mixp [] [_, _, _, _] trivial List.nodup_nil
    ·intro p
     refine mx_move rfl rfl ?_
     simp only [Act.put, pu]
     refine mx_move rfl rfl ?_
     simp only [Act.put, pu]
     refine mx_val (.int .i64 (64 * k : Nat)) (fun w' => (x_lenL _ _ rfl _ _ _ rfl Tryd.underlying35 w').trans (by rw [z1])) ?_
     simp only [Act.put, pu]
     refine mx_val (.bool false) (x_lt _ _ _ _ rfl (64 * k : Nat) (64 * k : Nat) rfl rfl false (decide_eq_false (by omega))) ?_
     simp only [Act.put, pu]
     refine mx_end ?_
     intro w5 hkw hrw hnew hdis
     replace r4 := hkw.row r4 (by simp <;> omega)
     replace sb := sb.trans (hkw.below w.heap.size sb.size (by simp <;> omega))
     clear hkw hrw hnew hdis
     generalize ab (bf L) k = V at *
     have H0 : RsH w5 w g4 V (.slice none 0 0) (0 * 4) := ⟨ob_nil _ _, r4, sb⟩
     clear r4 sb rB z1 z2 z3 z5 z6
     go_wp2_with fail
     go_loopg [6, 7, 8] 8 (fun g s6 s7 s8 wr => ∃ k : Nat, k + g = 8 ∧ s7 = .int .i64 k ∧ RsH wr w g4 V s6 (k * 4))
     case atStart => exact ⟨0, by omega, rfl, H0⟩
     case round =>
      obtain ⟨k, hk, rfl, own, r4, sb⟩ := hrel
      clear H0
      cases gk with
      | zero =>
       obtain rfl : k = 8 := by omega
       clear hk
       rw [List.take_of_length_le (by rw [outL_length]; omega)] at own
       (repeat ((fail_if_success with_reducible refine rg ?_); go_step))
       refine wp_region_qp ?_
       refine qw_move (by rfl) rfl rfl ?_
       simp only [Act.put, pu]
       refine qw_value (by rfl) (.bool false) (x_lt _ _ _ _ rfl 8 8 rfl rfl false rfl) ?_
       simp only [Act.put, pu]
       refine qw_nil ?_
       intro w7 hqb
       replace own := own.belowAll hqb
       replace sb := below_on sb (Nat.le_refl _) hqb
       clear hqb
       rcases own with ⟨_, h0⟩ | ⟨gd, capd, curd, frd, rfl, hgd, hrow, hncd, hcmd, hcsd, hcelld, _⟩
       ·have := outL_length V
        rw [h0] at this
        simp at this
       have rD : RowR w7 gd curd 5 := ⟨frd, hrow⟩
       (repeat ((fail_if_success with_reducible refine rg ?_); go_step))
       apply wp_region_mixp [] [_, _, _] trivial List.nodup_nil
       ·intro p
        refine mx_move rfl rfl ?_
        simp only [Act.put, pu]
        refine mx_value (.string ⟨(outL V).toArray⟩) [] (fun w' hkw _ => x_str _ rfl gd 0 capd (outL V).length (outL V) rfl rfl w' (hkw.rowR rD (by simp)) (fun j hj => by rw [Nat.zero_add]; exact hcelld j hj)) ?_
        simp only [Act.put, pu]
        refine mx_asg rfl rfl ?_
        simp only [Act.put, pu]
        refine mx_end ?_
        intro w8 hkw hrw hnew hdis
        replace sb := sb.trans (hkw.below w.heap.size sb.size (by simp <;> omega))
        clear hkw hrw hnew hdis
        go_wp2
        go_ret
        exact ⟨by rw [HV.out]; rfl, sb⟩
       ·rfl
      | succ g =>
       have hk8 : k < 8 := by omega
       have hVk := HV2.out k
       (repeat ((fail_if_success with_reducible refine rg ?_); go_step))
       refine wp_region_qp ?_
       refine qw_move (by rfl) rfl rfl ?_
       simp only [Act.put, pu]
       refine qw_value (by rfl) (.bool true) (x_lt _ _ _ _ rfl k 8 rfl rfl true (decide_eq_true (by omega))) ?_
       simp only [Act.put, pu]
       refine qw_nil ?_
       intro w7 hqb
       replace own := own.belowAll hqb
       replace r4 := r4.belowAll hqb
       replace sb := below_on sb (Nat.le_refl _) hqb
       clear hqb
       have H1 : RsH w7 w g4 V u6 (k * 4 + 0) := ⟨own, r4, sb⟩
       clear own r4 sb
       go_wp2_with fail
       go_loopg [6, 8] 4 (fun m s6 s8 wq => ∃ j : Nat, j + m = 4 ∧ s8 = .int .i64 (3 - (j : Int)) ∧ RsH wq w g4 V s6 (k * 4 + j))
       case atStart => exact ⟨0, by omega, rfl, H1⟩
       case round =>
        obtain ⟨j, hj, rfl, own, r4, sb⟩ := hrel
        clear H1
        cases gk with
        | zero =>
         obtain rfl : j = 4 := by omega
         clear hj
         (repeat ((fail_if_success with_reducible refine rg ?_); go_step))
         refine wp_region_qp ?_
         refine qw_move (by rfl) rfl rfl ?_
         simp only [Act.put, pu]
         refine qw_value (by rfl) (.bool false) (x_ge _ _ _ _ rfl (3 - (4 : Nat)) 0 rfl rfl false rfl) ?_
         simp only [Act.put, pu]
         refine qw_nil ?_
         intro w10 hqb
         replace own := own.belowAll hqb
         replace r4 := r4.belowAll hqb
         replace sb := below_on sb (Nat.le_refl _) hqb
         clear hqb
         (repeat ((fail_if_success with_reducible refine rg ?_); go_step))
         refine wp_region_qp ?_
         refine qw_move (by rfl) rfl rfl ?_
         simp only [Act.put, pu]
         refine qw_value (by rfl) (.int .i64 (k + 1 : Nat)) (xi_add _ _ _ _ rfl k 1 rfl rfl (by omega)) ?_
         simp only [Act.put, pu]
         refine qw_asg (by rfl) rfl rfl ?_
         simp only [Act.put, pu]
         refine qw_nil ?_
         intro w11 hqb
         replace own := own.belowAll hqb
         replace r4 := r4.belowAll hqb
         replace sb := below_on sb (Nat.le_refl _) hqb
         clear hqb
         go_wp2
         go_roundg g
         case measure => omega
         case rel => exact ⟨k + 1, by omega, rfl, by rw [show (k + 1) * 4 = k * 4 + 4 by omega]; exact own, r4, sb⟩
        | succ m =>
         have e3 : (3 : Int) - (j : Int) = ((3 - j : Nat) : Int) := by omega
         rw [e3]
         (repeat ((fail_if_success with_reducible refine rg ?_); go_step))
         refine wp_region_qp ?_
         refine qw_move (by rfl) rfl rfl ?_
         simp only [Act.put, pu]
         refine qw_value (by rfl) (.bool true) (x_ge _ _ _ _ rfl (3 - j : Nat) 0 rfl rfl true (decide_eq_true (by omega))) ?_
         simp only [Act.put, pu]
         refine qw_nil ?_
         intro w11 hqb
         replace own := own.belowAll hqb
         replace r4 := r4.belowAll hqb
         replace sb := below_on sb (Nat.le_refl _) hqb
         clear hqb
         (repeat ((fail_if_success with_reducible refine rg ?_); go_step))
         refine wp_region_pw ?_
         refine pw_move (by rfl) (.inl rfl) rfl ?_
         simp only [Act.put, pu]
         refine pw_move (by rfl) (.inl rfl) rfl ?_
         simp only [Act.put, pu]
         refine pw_value (by rfl) (.pointer (some ⟨g4, k, none⟩)) (exec_index 61 _ _ rfl g4 rfl k 8 rfl hk8 _ Tryd.underlying61 Tryd.sizeOf3) ?_
         simp only [Act.put, pu]
         refine pw_loadc (by rfl) 3 _ rfl g4 k rfl r4.r (.int .i64 (V k : Nat)) (rC_get _ _ _ _ hk8) Tryd.isAgg3 ?_
         simp only [Act.put, pu]
         refine pw_move (by rfl) (.inl rfl) rfl ?_
         simp only [Act.put, pu]
         refine pw_value (by rfl) (.int .i64 (8 * (3 - j) : Nat)) (xi_mul _ _ _ _ rfl 8 (3 - j) _ rfl rfl rfl (by omega)) ?_
         simp only [Act.put, pu]
         refine pw_value (by rfl) (.int .i64 (V k / 2 ^ (8 * (3 - j)) : Nat)) (xi_shr _ _ _ _ rfl (V k) (8 * (3 - j)) .i64 rfl rfl (by omega)) ?_
         simp only [Act.put, pu]
         refine pw_value (by rfl) (.int .i64 (V k / 2 ^ (8 * (3 - j)) % 256 : Nat)) (xi_and _ _ _ _ rfl (V k / 2 ^ (8 * (3 - j))) 255 _ rfl rfl (lt63 (div32 hVk)) (by decide) (Nat.and_two_pow_sub_one_eq_mod _ 8)) ?_
         simp only [Act.put, pu]
         refine pw_value (by rfl) (.int .u8 (V k / 2 ^ (8 * (3 - j)) % 256 : Nat)) (x_conv _ _ _ rfl .i64 .u8 Tryd.underlying3 Tryd.underlying5 ((V k / 2 ^ (8 * (3 - j)) % 256 : Nat) : Int) _ rfl (wrp8 _ _ (Nat.mod_mod _ _))) ?_
         simp only [Act.put, pu]
         refine pw_lit1 (by rfl) _ rfl (V k / 2 ^ (8 * (3 - j)) % 256) rfl ?_
         have hnw := bnew_one w11 (V k / 2 ^ (8 * (3 - j)) % 256) (UInt8.ofNat (V k / 2 ^ (8 * (3 - j)) % 256)) (UInt8.toNat_ofNat_of_lt' (Nat.mod_lt _ (by decide))) 5
         replace own := own.alloc (.cells #[.int .u8 (V k / 2 ^ (8 * (3 - j)) % 256 : Nat)] 5)
         replace r4 := r4.alloc (.cells #[.int .u8 (V k / 2 ^ (8 * (3 - j)) % 256 : Nat)] 5)
         replace sb := sb.alloc sb.size (.cells #[.int .u8 (V k / 2 ^ (8 * (3 - j)) % 256 : Nat)] 5)
         simp only [Act.put, pu]
         refine pw_app (by rfl) _ _ rfl w.heap.size u6 ((outL V).take (k * 4 + j)) [UInt8.ofNat (V k / 2 ^ (8 * (3 - j)) % 256)] rfl own ⟨w11.heap.size, 0, none⟩ 1 1 rfl rfl hnw (by rw [List.length_take, outL_length]; omega) sb.size ?_
         intro v9 w12 own9 gr
         replace sb := OB.grown sb own gr sb.size (Nat.le_refl _)
         replace r4 := r4.grown gr (own.ne_row r4 (by decide))
         rw [take_out V k j hk8 (by omega)] at own9
         clear own gr hnw
         simp only [Act.put, pu]
         refine pw_move (by rfl) (.inr rfl) rfl ?_
         simp only [Act.put, pu]
         refine pw_nil ?_
         (repeat ((fail_if_success with_reducible refine rg ?_); go_step))
         refine wp_region_qp ?_
         refine qw_move (by rfl) rfl rfl ?_
         simp only [Act.put, pu]
         refine qw_value (by rfl) (.int .i64 (3 - ((j + 1 : Nat) : Int))) (xi_subZ _ _ _ _ rfl (3 - j : Nat) 1 _ rfl rfl (by omega) (by omega) (by omega)) ?_
         simp only [Act.put, pu]
         refine qw_asg (by rfl) rfl rfl ?_
         simp only [Act.put, pu]
         refine qw_nil ?_
         intro w13 hqb
         replace own9 := own9.belowAll hqb
         replace r4 := r4.belowAll hqb
         replace sb := below_on sb (Nat.le_refl _) hqb
         clear hqb
         go_wp2
         go_roundg m
         case measure => omega
         case rel => exact ⟨j + 1, by omega, rfl, own9, r4, sb⟩
    ·rfl
   | succ g =>
    have hV : ∀ i, ab (bf L) k i < 4294967296 := ab_lt _ _
    have hbb : ∀ i, (fun i => bf L (64 * k + i)) i < 256 := fun i => bf_lt _ _
    have hcb : ∀ i, i < 64 → cur[0 + 64 * k + i]? = some (.int .u8 ((fun i => bf L (64 * k + i)) i : Nat)) := fun i hi => by rw [Nat.zero_add]; exact z6 _ (by omega)
    have hab : ab (bf L) (k + 1) = cmp (ab (bf L) k) (fun i => bf L (64 * k + i)) := rfl
    (repeat ((fail_if_success with_reducible refine rg ?_); go_step))
    apply wp_region_mixp [] [_, _, _, _] trivial List.nodup_nil
    ·intro p
     refine mx_move rfl rfl ?_
     simp only [Act.put, pu]
     refine mx_move rfl rfl ?_
     simp only [Act.put, pu]
     refine mx_val (.int .i64 (64 * m : Nat)) (fun w' => (x_lenL _ _ rfl _ _ _ rfl Tryd.underlying35 w').trans (by rw [z1])) ?_
     simp only [Act.put, pu]
     refine mx_val (.bool true) (x_lt _ _ _ _ rfl (64 * k : Nat) (64 * m : Nat) rfl rfl true (decide_eq_true (by omega))) ?_
     simp only [Act.put, pu]
     refine mx_end ?_
     intro w5 hkw hrw hnew hdis
     replace r4 := hkw.row r4 (by simp)
     replace rB := hkw.rowR rB (by simp)
     replace sb := sb.trans (hkw.below w.heap.size sb.size (by simp))
     clear hkw hrw hnew hdis
     (repeat ((fail_if_success with_reducible refine rg ?_); go_step))
     apply wp_region_mix (by kernel_rfl) [(g4, 61, rC .i64 8 (ab (bf L) k))] [_, _, _, _, _, _, _, _] ⟨r4, trivial⟩ (by simp <;> omega)
     ·intro p
      refine mx_loadT 0 61 _ rfl rfl rfl 8 _ Tryd.underlying61 (by rw [rC_size]; exact size_8i) ?_
      simp only [Act.put, pu]
      refine mx_move rfl rfl ?_
      simp only [Act.put, pu]
      refine mx_move rfl rfl ?_
      simp only [Act.put, pu]
      refine mx_move rfl rfl ?_
      simp only [Act.put, pu]
      refine mx_val (.int .i64 (64 * k + 64 : Nat)) (xi_add _ _ _ _ rfl (64 * k) 64 rfl rfl (by omega)) ?_
      simp only [Act.put, pu]
      refine mx_val (.slice (some ⟨gb, 0 + 64 * k, none⟩) 64 (cap - 64 * k)) ((fun w' => (x_sliceL _ _ _ _ _ Tryd.underlying35 Tryd.sizeOf5 rfl gb 0 _ cap (64 * k) (64 * k + 64) rfl rfl rfl (by omega) (by omega) (by omega) w').trans (by rw [Nat.add_sub_cancel_left]))) ?_
      simp only [Act.put, pu]
      refine mx_callK 40 _ _ rfl Tryd.func40 (by kernel_rfl) #[.agg (rC .i64 8 (ab (bf L) k)), .slice (some ⟨gb, 0 + 64 * k, none⟩) 64 (cap - 64 * k)] rfl _ (fun w' hk => block_any _ _ hV hbb gb (0 + 64 * k) _ cur 5 w' (hk.rowR rB (by simpa using z5)) hcb) ?_
      simp only [Act.put, pu]
      refine mx_put 0 61 _ _ rfl rfl rfl (rC .i64 8 (cmp (ab (bf L) k) (fun i => bf L (64 * k + i)))) rfl (by rw [rC_size]; exact size_8i) (by simp only [rC_size]) (rC_one _ _ _) ?_
      simp only [Act.put]
      refine mx_end ?_
      intro w6 hkw hrw hnew hdis
      have zr4 : Row w6 g4 (rC .i64 8 (cmp (ab (bf L) k) (fun i => bf L (64 * k + i)))) 61 := hrw 0 (61, rC .i64 8 (cmp (ab (bf L) k) (fun i => bf L (64 * k + i)))) rfl
      replace rB := hkw.rowR rB (by simpa using z5)
      replace sb := sb.trans (hkw.below w.heap.size sb.size (by simpa using z4))
      clear hkw hrw hnew hdis r4
      (repeat ((fail_if_success with_reducible refine rg ?_); go_step))
      refine wp_region_qp ?_
      refine qw_move (by rfl) rfl rfl ?_
      simp only [Act.put, pu]
      refine qw_value (by rfl) (.int .i64 (64 * k + 64 : Nat)) (xi_add _ _ _ _ rfl (64 * k) 64 rfl rfl (by omega)) ?_
      simp only [Act.put, pu]
      refine qw_asg (by rfl) rfl rfl ?_
      simp only [Act.put, pu]
      refine qw_nil ?_
      intro w7 hqb
      replace zr4 := zr4.belowAll hqb
      replace rB := rB.belowAll hqb
      replace sb := below_on sb (Nat.le_refl _) hqb
      clear hqb
      clear z1 z2 z3 hcb
      go_wp2
      go_roundg g
      case measure => omega
      case rel => exact ⟨k + 1, by omega, rfl, by rw [hab]; exact zr4, rB, sb⟩
     ·kernel_rfl
    ·rfl
 ·rfl
end Go.Proofs.YtdanmnhknmepiaaDoor
