/- PrimeChecks: for all links: Check tells whether up to ten, of naturals below 2^62, are a chain, as the document does; no condition. -/
import Derived.Test.YtcdfefljagddmabPRStep
import Derived.Test.YtcdfefljagddmabPOpen
namespace Go.Proofs.Ytcdfefljagddmab
open Go.ChangeShapes Go.WideShapes Go.ChangeAt Go.RowKit
namespace primeChecksP
set_option maxRecDepth 100000 in
set_option maxHeartbeats 2000000 in
theorem core_long (n c : Nat) (ab : Option Addr) (w : World) (h : 10 < n) :
    Calls Try.prog 4 #[.slice ab n c] w fun e w' => e = .returned (.bool true) ∧ Below w.heap.size w w' := by
  have haw := awake4_any
  go_enter Try.func4, Try.ntmps4
  (repeat ((fail_if_success (with_reducible show Code.wp _ (Code.region _ _ _) _ _ _)); go_step))
  apply wp_region_mixp [] [_] trivial List.nodup_nil
  · intro p
    refine mx_val (.bool false) (fun _ => rfl) ?_
    simp only [Act.put, pb, pc, pd]
    refine mx_end ?_
    intro w2 hkw hrw hnew hdis
    have sb := hkw.below w.heap.size (Nat.le_refl _) (by simp)
    clear hkw hrw hnew hdis
    (repeat ((fail_if_success (with_reducible show Code.wp _ (Code.region _ _ _) _ _ _)); go_step))
    apply wp_region_mixp [] [_, _, _] trivial List.nodup_nil
    · intro p
      refine mx_move rfl rfl ?_
      simp only [Act.put, pb, pc, pd]
      refine mx_val (.int .i64 n) (exec_len_s 32 _ rfl ab n c rfl sl_link) ?_
      simp only [Act.put, pb, pc, pd]
      refine mx_val (.bool true) (exec_gt_i _ _ _ _ rfl n 10 rfl rfl true (decide_eq_true (by omega))) ?_
      simp only [Act.put, pb, pc, pd]
      refine mx_end ?_
      intro w3 hkw hrw hnew hdis
      replace sb := sb.trans (hkw.below w.heap.size sb.size (by simp <;> omega))
      clear hkw hrw hnew hdis
      (repeat ((fail_if_success (with_reducible show Code.wp _ (Code.region _ _ _) _ _ _)); go_step))
      apply wp_region_mixp [] [_, _] trivial List.nodup_nil
      · intro p
        refine mx_call 10 _ _ rfl Try.func10 (by kernel_rfl) #[] rfl _ haw ?_
        simp only [Act.put, pb, pc, pd]
        refine mx_asg rfl rfl ?_
        simp only [Act.put, pb, pc, pd]
        refine mx_end ?_
        intro w4 hkw hrw hnew hdis
        replace sb := sb.trans (hkw.below w.heap.size sb.size (by simp <;> omega))
        clear hkw hrw hnew hdis
        go_wp2
        go_ret
        exact ⟨rfl, sb⟩
      · rfl
    · rfl
  · rfl
set_option maxRecDepth 100000 in
set_option maxHeartbeats 2000000 in
theorem core_rest (n c : Nat) (ab : Option Addr) (N : Nat → Nat) (A : Nat → Int) (gb ob : Nat) (bcs : Array Value) (tb : TypeId) (w : World) (h10 : n ≤ 10) (hL : LinksAt w ab n N A gb ob bcs tb) :
    Calls Try.prog 4 #[.slice ab n c] w fun e w' => e = .returned (.bool true) ∧ Below w.heap.size w w' := by
  have HL : Hid (LinksAt w ab n N A gb ob bcs tb) := hL
  clear hL
  have haw := awake4_any
  go_enter Try.func4, Try.ntmps4
  (repeat ((fail_if_success (with_reducible show Code.wp _ (Code.region _ _ _) _ _ _)); go_step))
  apply wp_region_mixp [] [_] trivial List.nodup_nil
  · intro p
    refine mx_val (.bool false) (fun _ => rfl) ?_
    simp only [Act.put, pb, pc, pd]
    refine mx_end ?_
    intro w2 hkw hrw hnew hdis
    have sb := hkw.below w.heap.size (Nat.le_refl _) (by simp)
    clear hkw hrw hnew hdis
    (repeat ((fail_if_success (with_reducible show Code.wp _ (Code.region _ _ _) _ _ _)); go_step))
    apply wp_region_mixp [] [_, _, _] trivial List.nodup_nil
    · intro p
      refine mx_move rfl rfl ?_
      simp only [Act.put, pb, pc, pd]
      refine mx_val (.int .i64 n) (exec_len_s 32 _ rfl ab n c rfl sl_link) ?_
      simp only [Act.put, pb, pc, pd]
      refine mx_val (.bool false) (exec_gt_i _ _ _ _ rfl n 10 rfl rfl false (decide_eq_false (by omega))) ?_
      simp only [Act.put, pb, pc, pd]
      refine mx_end ?_
      intro w3 hkw hrw hnew hdis
      replace sb := sb.trans (hkw.below w.heap.size sb.size (by simp <;> omega))
      clear hkw hrw hnew hdis
      go_wp2_with fail
      go_loopg [3] n (fun g s3 wr => ∃ k : Nat, k + g = n ∧ s3 = .int .i64 k ∧ (∀ i, i < k → N i < 4611686018427387904) ∧ Below w.heap.size w wr)
      case atStart => exact ⟨0, by omega, rfl, fun i hi => absurd hi (Nat.not_lt_zero i), sb⟩
      case round =>
        clear sb
        obtain ⟨k, hk, rfl, hs, sb⟩ := hrel
        cases gk with
        | zero =>
          obtain rfl : k = n := by omega
          have hch := fun w' (hb : Below w.heap.size w w') => check_any k c ab N A gb ob bcs tb w' (HL.out.below hb)
          have hrc := fun w' (hb : Below w.heap.size w w') => rC_any k c ab N A gb ob bcs tb w' (HL.out.below hb) hs
          clear hs
          cases hc : chN k N A with
          | true =>
            rw [hc, show errC true = 0 from rfl] at hch
            rw [hc] at hrc
            clear hc
            (repeat ((fail_if_success (with_reducible show Code.wp _ (Code.region _ _ _) _ _ _)); go_step))
            apply wp_region_mixp [] [_, _, _, _] trivial List.nodup_nil
            · intro p
              refine mx_move rfl rfl ?_
              simp only [Act.put, pb, pc, pd]
              refine mx_move rfl rfl ?_
              simp only [Act.put, pb, pc, pd]
              refine mx_val (.int .i64 k) (exec_len_s 32 _ rfl ab k c rfl sl_link) ?_
              simp only [Act.put, pb, pc, pd]
              refine mx_val (.bool false) (exec_lt_b _ _ _ _ rfl k k rfl rfl false (decide_eq_false (Int.lt_irrefl _))) ?_
              simp only [Act.put, pb, pc, pd]
              refine mx_end ?_
              intro w4 hkw hrw hnew hdis
              replace sb := sb.trans (hkw.below w.heap.size sb.size (by simp <;> omega))
              clear hkw hrw hnew hdis
              (repeat ((fail_if_success (with_reducible show Code.wp _ (Code.region _ _ _) _ _ _)); go_step))
              apply wp_region_mixp [] [_, _, _] trivial List.nodup_nil
              · intro p
                refine mx_move rfl rfl ?_
                simp only [Act.put, pb, pc, pd]
                refine mx_callK 12 _ _ rfl Try.func12 (by kernel_rfl) #[.slice ab k c] rfl _ (fun w' hk => hch w' (sb.trans (hk.below w.heap.size sb.size (by simp)))) ?_
                simp only [Act.put, pb, pc, pd]
                refine mx_asg rfl rfl ?_
                simp only [Act.put, pb, pc, pd]
                refine mx_end ?_
                intro w5 hkw hrw hnew hdis
                replace sb := sb.trans (hkw.below w.heap.size sb.size (by simp <;> omega))
                clear hkw hrw hnew hdis
                (repeat ((fail_if_success (with_reducible show Code.wp _ (Code.region _ _ _) _ _ _)); go_step))
                refine wp_region_qp ?_
                refine qw_move (by rfl) rfl rfl ?_
                simp only [Act.put, pb, pc, pd]
                refine qw_value (by rfl) (.bool true) (exec_eql_k .i64 _ _ _ _ rfl 0 0 rfl rfl true rfl) ?_
                simp only [Act.put, pb, pc, pd]
                refine qw_move (by rfl) rfl rfl ?_
                simp only [Act.put, pb, pc, pd]
                refine qw_callK (by rfl) 13 _ _ rfl Try.func13 (by kernel_rfl) #[.slice ab k c] rfl _ (fun w' hb => hrc w' (below_on sb (Nat.le_refl _) hb)) ?_
                simp only [Act.put, pb, pc, pd]
                refine qw_value (by rfl) (.bool true) (exec_eql_bool _ _ _ _ rfl true rfl rfl Try.underlying4) ?_
                simp only [Act.put, pb, pc, pd]
                refine qw_move (by rfl) rfl rfl ?_
                simp only [Act.put, pb, pc, pd]
                refine qw_move (by rfl) rfl rfl ?_
                simp only [Act.put, pb, pc, pd]
                refine qw_value (by rfl) (.bool true) (exec_eql_k .i64 _ _ _ _ rfl 0 0 rfl rfl true rfl) ?_
                simp only [Act.put, pb, pc, pd]
                refine qw_move (by rfl) rfl rfl ?_
                simp only [Act.put, pb, pc, pd]
                refine qw_skip (by rfl) ?_
                simp only [Act.put, pb, pc, pd]
                refine qw_skip (by rfl) ?_
                simp only [Act.put, pb, pc, pd]
                refine qw_pick true (v := .bool true) (by rfl) rfl rfl rfl ?_
                simp only [Act.put, pb, pc, pd]
                refine qw_pick true (v := .bool true) (by rfl) rfl rfl rfl ?_
                simp only [Act.put, pb, pc, pd]
                refine qw_move (by rfl) rfl rfl ?_
                simp only [Act.put, pb, pc, pd]
                refine qw_call (by rfl) 10 _ _ rfl Try.func10 (by kernel_rfl) #[] rfl _ haw ?_
                simp only [Act.put, pb, pc, pd]
                refine qw_pick true (v := .bool true) (by rfl) rfl rfl rfl ?_
                simp only [Act.put, pb, pc, pd]
                refine qw_asg (by rfl) rfl rfl ?_
                simp only [Act.put, pb, pc, pd]
                refine qw_nil ?_
                intro w6 hqb
                replace sb := below_on sb (Nat.le_refl _) hqb
                clear hqb
                go_wp2
                go_ret
                exact ⟨rfl, sb⟩
              · rfl
            · rfl
          | false =>
            rw [hc, show errC false = 4 from rfl] at hch
            rw [hc] at hrc
            clear hc
            (repeat ((fail_if_success (with_reducible show Code.wp _ (Code.region _ _ _) _ _ _)); go_step))
            apply wp_region_mixp [] [_, _, _, _] trivial List.nodup_nil
            · intro p
              refine mx_move rfl rfl ?_
              simp only [Act.put, pb, pc, pd]
              refine mx_move rfl rfl ?_
              simp only [Act.put, pb, pc, pd]
              refine mx_val (.int .i64 k) (exec_len_s 32 _ rfl ab k c rfl sl_link) ?_
              simp only [Act.put, pb, pc, pd]
              refine mx_val (.bool false) (exec_lt_b _ _ _ _ rfl k k rfl rfl false (decide_eq_false (Int.lt_irrefl _))) ?_
              simp only [Act.put, pb, pc, pd]
              refine mx_end ?_
              intro w4 hkw hrw hnew hdis
              replace sb := sb.trans (hkw.below w.heap.size sb.size (by simp <;> omega))
              clear hkw hrw hnew hdis
              (repeat ((fail_if_success (with_reducible show Code.wp _ (Code.region _ _ _) _ _ _)); go_step))
              apply wp_region_mixp [] [_, _, _] trivial List.nodup_nil
              · intro p
                refine mx_move rfl rfl ?_
                simp only [Act.put, pb, pc, pd]
                refine mx_callK 12 _ _ rfl Try.func12 (by kernel_rfl) #[.slice ab k c] rfl _ (fun w' hk => hch w' (sb.trans (hk.below w.heap.size sb.size (by simp)))) ?_
                simp only [Act.put, pb, pc, pd]
                refine mx_asg rfl rfl ?_
                simp only [Act.put, pb, pc, pd]
                refine mx_end ?_
                intro w5 hkw hrw hnew hdis
                replace sb := sb.trans (hkw.below w.heap.size sb.size (by simp <;> omega))
                clear hkw hrw hnew hdis
                (repeat ((fail_if_success (with_reducible show Code.wp _ (Code.region _ _ _) _ _ _)); go_step))
                refine wp_region_qp ?_
                refine qw_move (by rfl) rfl rfl ?_
                simp only [Act.put, pb, pc, pd]
                refine qw_value (by rfl) (.bool false) (exec_eql_k .i64 _ _ _ _ rfl 4 0 rfl rfl false rfl) ?_
                simp only [Act.put, pb, pc, pd]
                refine qw_move (by rfl) rfl rfl ?_
                simp only [Act.put, pb, pc, pd]
                refine qw_callK (by rfl) 13 _ _ rfl Try.func13 (by kernel_rfl) #[.slice ab k c] rfl _ (fun w' hb => hrc w' (below_on sb (Nat.le_refl _) hb)) ?_
                simp only [Act.put, pb, pc, pd]
                refine qw_value (by rfl) (.bool true) (exec_eql_bool _ _ _ _ rfl false rfl rfl Try.underlying4) ?_
                simp only [Act.put, pb, pc, pd]
                refine qw_move (by rfl) rfl rfl ?_
                simp only [Act.put, pb, pc, pd]
                refine qw_move (by rfl) rfl rfl ?_
                simp only [Act.put, pb, pc, pd]
                refine qw_value (by rfl) (.bool false) (exec_eql_k .i64 _ _ _ _ rfl 4 0 rfl rfl false rfl) ?_
                simp only [Act.put, pb, pc, pd]
                refine qw_move (by rfl) rfl rfl ?_
                simp only [Act.put, pb, pc, pd]
                refine qw_move (by rfl) rfl rfl ?_
                simp only [Act.put, pb, pc, pd]
                refine qw_value (by rfl) (.bool true) (exec_eql_k .i64 _ _ _ _ rfl 4 4 rfl rfl true rfl) ?_
                simp only [Act.put, pb, pc, pd]
                refine qw_pick false (v := .bool true) (by rfl) rfl rfl rfl ?_
                simp only [Act.put, pb, pc, pd]
                refine qw_pick true (v := .bool true) (by rfl) rfl rfl rfl ?_
                simp only [Act.put, pb, pc, pd]
                refine qw_move (by rfl) rfl rfl ?_
                simp only [Act.put, pb, pc, pd]
                refine qw_call (by rfl) 10 _ _ rfl Try.func10 (by kernel_rfl) #[] rfl _ haw ?_
                simp only [Act.put, pb, pc, pd]
                refine qw_pick true (v := .bool true) (by rfl) rfl rfl rfl ?_
                simp only [Act.put, pb, pc, pd]
                refine qw_asg (by rfl) rfl rfl ?_
                simp only [Act.put, pb, pc, pd]
                refine qw_nil ?_
                intro w6 hqb
                replace sb := below_on sb (Nat.le_refl _) hqb
                clear hqb
                go_wp2
                go_ret
                exact ⟨rfl, sb⟩
              · rfl
            · rfl
        | succ g =>
          have hle := fun w' => rlen_any (N k) w' (HL.out.lt k (by omega))
          have HB0 : Hid (bitLen (N k) ≤ 62 → N k < 4611686018427387904) := fun h => lt_bitLen (N k) 62 h
          generalize bitLen (N k) = BL at *
          by_cases hbl : 62 < BL
          · clear hs HB0
            (repeat ((fail_if_success (with_reducible show Code.wp _ (Code.region _ _ _) _ _ _)); go_step))
            apply wp_region_mixp [] [_, _, _, _] trivial List.nodup_nil
            · intro p
              refine mx_move rfl rfl ?_
              simp only [Act.put, pb, pc, pd]
              refine mx_move rfl rfl ?_
              simp only [Act.put, pb, pc, pd]
              refine mx_val (.int .i64 n) (exec_len_s 32 _ rfl ab n c rfl sl_link) ?_
              simp only [Act.put, pb, pc, pd]
              refine mx_val (.bool true) (exec_lt_b _ _ _ _ rfl k n rfl rfl true (decide_eq_true (by omega))) ?_
              simp only [Act.put, pb, pc, pd]
              refine mx_end ?_
              intro w4 hkw hrw hnew hdis
              replace sb := sb.trans (hkw.below w.heap.size sb.size (by simp <;> omega))
              clear hkw hrw hnew hdis
              obtain h0 | ⟨rfl, rB, hat⟩ := (HL.out.below sb).at'
              · omega
              (repeat ((fail_if_success (with_reducible show Code.wp _ (Code.region _ _ _) _ _ _)); go_step))
              refine wp_region_qp ?_
              refine qw_move (by rfl) rfl rfl ?_
              simp only [Act.put, pb, pc, pd]
              refine qw_move (by rfl) rfl rfl ?_
              simp only [Act.put, pb, pc, pd]
              refine qw_value (by rfl) (.pointer (some ⟨gb, ob + k * 5, none⟩)) (exec_index_s 32 _ _ rfl gb ob n c rfl k rfl (by omega) _ Try.underlying32 5 Try.sizeOf35) ?_
              simp only [Act.put, pb, pc, pd]
              refine qw_value (by rfl) (.pointer (some ⟨gb, ob + k * 5, none⟩)) (exec_field 35 _ 0 rfl gb (ob + k * 5) rfl _ Try.underlying35 _ rfl 3 Try.sizeOf25) ?_
              simp only [Act.put, pb, pc, pd]
              refine qw_loadmR (by rfl) 25 _ rfl _ ((ob + k * 5)) rfl rB (natC (N k)) (lk_part (hat k (by omega))) _ Try.underlying25 rfl size_nat ?_
              simp only [Act.put, pb, pc, pd]
              refine qw_call (by rfl) 11 _ _ rfl Try.func11 (by kernel_rfl) #[.agg (natC (N k))] rfl _ hle ?_
              simp only [Act.put, pb, pc, pd]
              refine qw_value (by rfl) (.bool true) (exec_gt_i _ _ _ _ rfl BL 62 rfl rfl true (decide_eq_true (by omega))) ?_
              simp only [Act.put, pb, pc, pd]
              refine qw_nil ?_
              intro w5 hqb
              replace sb := below_on sb (Nat.le_refl _) hqb
              clear hqb
              (repeat ((fail_if_success (with_reducible show Code.wp _ (Code.region _ _ _) _ _ _)); go_step))
              apply wp_region_mixp [] [_, _] trivial List.nodup_nil
              · intro p
                refine mx_call 10 _ _ rfl Try.func10 (by kernel_rfl) #[] rfl _ haw ?_
                simp only [Act.put, pb, pc, pd]
                refine mx_asg rfl rfl ?_
                simp only [Act.put, pb, pc, pd]
                refine mx_end ?_
                intro w6 hkw hrw hnew hdis
                replace sb := sb.trans (hkw.below w.heap.size sb.size (by simp <;> omega))
                clear hkw hrw hnew hdis
                go_wp2
                go_ret
                exact ⟨rfl, sb⟩
              · rfl
            · rfl
          · have HB : Hid (N k < 4611686018427387904) := HB0.out (by omega)
            clear haw HB0
            (repeat ((fail_if_success (with_reducible show Code.wp _ (Code.region _ _ _) _ _ _)); go_step))
            apply wp_region_mixp [] [_, _, _, _] trivial List.nodup_nil
            · intro p
              refine mx_move rfl rfl ?_
              simp only [Act.put, pb, pc, pd]
              refine mx_move rfl rfl ?_
              simp only [Act.put, pb, pc, pd]
              refine mx_val (.int .i64 n) (exec_len_s 32 _ rfl ab n c rfl sl_link) ?_
              simp only [Act.put, pb, pc, pd]
              refine mx_val (.bool true) (exec_lt_b _ _ _ _ rfl k n rfl rfl true (decide_eq_true (by omega))) ?_
              simp only [Act.put, pb, pc, pd]
              refine mx_end ?_
              intro w4 hkw hrw hnew hdis
              replace sb := sb.trans (hkw.below w.heap.size sb.size (by simp <;> omega))
              clear hkw hrw hnew hdis
              obtain h0 | ⟨rfl, rB, hat⟩ := (HL.out.below sb).at'
              · omega
              (repeat ((fail_if_success (with_reducible show Code.wp _ (Code.region _ _ _) _ _ _)); go_step))
              refine wp_region_qp ?_
              refine qw_move (by rfl) rfl rfl ?_
              simp only [Act.put, pb, pc, pd]
              refine qw_move (by rfl) rfl rfl ?_
              simp only [Act.put, pb, pc, pd]
              refine qw_value (by rfl) (.pointer (some ⟨gb, ob + k * 5, none⟩)) (exec_index_s 32 _ _ rfl gb ob n c rfl k rfl (by omega) _ Try.underlying32 5 Try.sizeOf35) ?_
              simp only [Act.put, pb, pc, pd]
              refine qw_value (by rfl) (.pointer (some ⟨gb, ob + k * 5, none⟩)) (exec_field 35 _ 0 rfl gb (ob + k * 5) rfl _ Try.underlying35 _ rfl 3 Try.sizeOf25) ?_
              simp only [Act.put, pb, pc, pd]
              refine qw_loadmR (by rfl) 25 _ rfl _ ((ob + k * 5)) rfl rB (natC (N k)) (lk_part (hat k (by omega))) _ Try.underlying25 rfl size_nat ?_
              simp only [Act.put, pb, pc, pd]
              refine qw_call (by rfl) 11 _ _ rfl Try.func11 (by kernel_rfl) #[.agg (natC (N k))] rfl _ hle ?_
              simp only [Act.put, pb, pc, pd]
              refine qw_value (by rfl) (.bool false) (exec_gt_i _ _ _ _ rfl BL 62 rfl rfl false (decide_eq_false (by omega))) ?_
              simp only [Act.put, pb, pc, pd]
              refine qw_nil ?_
              intro w5 hqb
              replace sb := below_on sb (Nat.le_refl _) hqb
              clear hqb
              (repeat ((fail_if_success (with_reducible show Code.wp _ (Code.region _ _ _) _ _ _)); go_step))
              apply wp_region_mixp [] [_, _, _] trivial List.nodup_nil
              · intro p
                refine mx_move rfl rfl ?_
                simp only [Act.put, pb, pc, pd]
                refine mx_val (.int .i64 ((k + 1 : Nat) : Int)) (exec_add_in _ _ _ _ rfl k 1 rfl rfl (by omega)) ?_
                simp only [Act.put, pb, pc, pd]
                refine mx_asg rfl rfl ?_
                simp only [Act.put, pb, pc, pd]
                refine mx_end ?_
                intro w6 hkw hrw hnew hdis
                replace sb := sb.trans (hkw.below w.heap.size sb.size (by simp <;> omega))
                clear hkw hrw hnew hdis
                go_wp2
                go_roundg g
                case measure => omega
                case rel =>
                  refine ⟨k + 1, by omega, rfl, fun i hi => ?_, sb⟩
                  by_cases e : i = k
                  · subst e; exact HB.out
                  · exact hs i (by omega)
              · rfl
            · rfl
    · rfl
  · rfl
theorem walk (n c : Nat) (ab : Option Addr) (N : Nat → Nat) (A : Nat → Int) (gb ob : Nat) (bcs : Array Value) (tb : TypeId) (w : World) (hL : LinksAt w ab n N A gb ob bcs tb) :
    Calls Try.prog 4 #[.slice ab n c] w fun e w' => e = .returned (.bool true) ∧ Below w.heap.size w w' := by
  by_cases h : 10 < n
  · exact core_long n c ab w h
  · exact core_rest n c ab N A gb ob bcs tb w (by omega) hL

set_option maxRecDepth 100000 in
theorem lifted (os : Os) (started : os.Started) (H : Type) (enc : TypeId × Value → H) :
    ReturnsInHanded {} Try.checked os 4 .any (Rows.primeChecksSpec.pre6 enc Try.prog Try.f4 Rows.primeChecksRow.domain false) (Rows.primeChecksSpec.post enc Try.prog Try.f4 false true false false) := by
  refine returnsInHanded_of_change (C := Try.checked) own started (by kernel_rfl) Try.func4
    (ChangeSpec.witness6 (enc := enc) (C := Try.checked) false ⟨#[], #[.slice none 0 0], []⟩ 8 (by kernel_rfl) (by kernel_rfl) (by kernel_rfl) (by kernel_rfl)) ?_
  intro W base args ds gs before hval0 hW hcnd _
  have hval : ∀ (j : Nat) t v, Try.f4.params[j]? = some t → args[j]? = some v → Value.okWide Try.prog W .any base t v := hval0
  have hW' := hW
  obtain ⟨p, q, hA0, hV, rfl, hfz, hnd⟩ := hW
  have hA : DataW.TrodAll enc Try.prog W 0 (fun _ => true) true Try.f4.params.toList args.toList ds p := hA0
  rw [Try.params4] at hA hval
  obtain ⟨v0, vs0, d0, ds0, p0, q0, hargs, rfl, rfl, h0, r0⟩ := trodAll_cons hA
  obtain ⟨rfl, rfl, rfl⟩ := trodAll_nil r0
  obtain rfl : args = #[v0] := by cases args; simp_all
  obtain ⟨rfl, rfl⟩ := trodVars_none hV
  have k0 := h0
  have lt0 := lt_of_trod h0
  obtain ⟨ab, n, c, N, A, gb, ob, bcs, tb, rfl, _, _, q1⟩ := open_links (hval 0 32 v0 rfl rfl) h0
  clear hA0 hval0
  refine (walk n c ab N A gb ob bcs tb W q1).mono fun e W' ⟨he, bel⟩ => ?_
  subst he
  exact ⟨_, rfl, _, _, _, [], _, [], hW', trodAll_mk1 (shut_bool Try.underlying4 _), (trodAll_cons_mk (Below.trod laidOut (by kernel_rfl) (of_decide_eq_true (by kernel_rfl)) k0 bel lt0) trodAll_mk0), rfl, bel.frame _, fun h => by cases h⟩

theorem over : Rows.primeChecksRow.holds Try.pinned (OpenSpec.ofChange Rows.primeChecksSpec) :=
  OpenClaim.holds_of_wide 4 Try.f4 rfl rfl rfl rfl rfl rfl rfl ⟨rfl, rfl, rfl, rfl, rfl⟩ rfl rfl rfl rfl rfl (by kernel_rfl) Try.func4 (by kernel_rfl)
    (of_decide_eq_true (by kernel_rfl)) (by unfold Func.isWrapper; first | (rw [if_pos (by decide +kernel)]; kernel_rfl) | (rw [if_neg (by decide +kernel)]; exact ⟨rfl, rfl⟩))
    (fun os started H enc _ => lifted os started H enc)

end primeChecksP

/-- for all links: Check tells whether up to ten, of naturals below 2^62, are a chain, as the document does; no condition. -/
theorem primeChecks_holds : Rows.PrimeChecksSaid := primeChecksP.over
end Go.Proofs.Ytcdfefljagddmab
