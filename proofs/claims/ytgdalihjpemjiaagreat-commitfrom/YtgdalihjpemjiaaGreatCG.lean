import Derived.Test.YtgdalihjpemjiaaGreatCO
import Derived.Laws.OwnMore
set_option maxRecDepth 100000
set_option maxHeartbeats 2000000
namespace Go.Proofs.YtgdalihjpemjiaaGreat
open Go.RowKit
set_option linter.unusedVariables false
theorem isC_app (n : Nat) (u : Nat → Nat) : ∀ m, (isC n u).toList ++ (isC m (fun i => u (n + i))).toList = (isC (n + m) u).toList
 | 0 => by
  have h : (isC 0 (fun i => u (n + i))).toList = [] := by
   apply List.eq_nil_of_length_eq_zero
   rw [Array.length_toList, isC_size]
  rw [h, List.append_nil, Nat.add_zero]
 | m + 1 => by
  rw [← isC_snoc m, ← List.append_assoc, isC_app n u m, isC_snoc, Nat.add_assoc]
theorem isC_all (n : Nat) (u : Nat → Nat) : ∀ x ∈ (isC n u).toList, x.oneCell' = true := by
 intro x hx
 obtain ⟨i, hi, rfl⟩ := List.getElem_of_mem hx
 have hi' : i < n := by rw [Array.length_toList, isC_size] at hi; exact hi
 have h := isC_get n u i hi'
 rw [← Array.getElem?_toList, List.getElem?_eq_getElem hi] at h
 rw [Option.some.inj h]
 rfl
theorem ownI_lit {w : World} {base g : Nat} {u : Nat → Nat} (r : Row w g #[.int .i64 (u 0 : Nat)] 3) (hb : base ≤ g) : OwnI w base (.slice (some ⟨g, 0, none⟩) 1 1) 1 u := by
 have e : (isC 1 u).toList = [.int .i64 (u 0 : Nat)] := by
  rw [← isC_snoc 0 u]
  simp [isC]
 refine ⟨by rw [e]; rfl, .inr ⟨g, 1, _, rfl, hb, r, Nat.le_refl _, by decide, rfl, ?_⟩⟩
 rw [e]
 rfl
section
variable {ops : Array Oper} {Q : Exit → Act → World → Prop} {rest : List Oper} {o : Oper} {a : Act} {w : World}
theorem pw_appOI (hw : Region.wanted o (yielded ops a.tmps) = true) (s x : Operand) (ho : o.op = .call { callee := .builtin .append, args := #[s, x], argTypes := #[30, 30] })
  (base base2 : Nat) (v1 : Value) (n1 : Nat) (u : Nat → Nat) (hs : a.eval s = v1) (hown : OwnI w base v1 n1 u) (v2 : Value) (n2 : Nat) (u2 : Nat → Nat) (hx : a.eval x = v2) (hown2 : OwnI w base2 v2 n2 u2) (hf : ∀ i, i < n2 → u2 i = u (n1 + i)) (hn : n1 + n2 ≤ 1000) (hbase : base ≤ w.heap.size)
  (h : ∀ v' w', OwnI w' base v' (n1 + n2) u → Kept v1.ownBlock.toList w w' → PW Tryz.prog ops Q rest (a.put o.dst v') w') : PW Tryz.prog ops Q (o :: rest) a w := by
 obtain ⟨i, hi, hz, hsz, hby⟩ := info_int'
 rcases hown2.2 with ⟨rfl, rfl⟩ | ⟨g, cap, cur, rfl, _⟩
 ·refine pw_run hw v1 w ?_ (h v1 w hown (Kept.refl _ _))
  have hr := run_append_owned_none (P := Tryz.prog) (w := w) base 30 o.type 3 i 1 Tryz.underlying30 hi v1 n1 _ hown
  unfold execOp
  simp only [ho, resolve, invoke, builtin, Sem.run_bind, Sem.run_pure, Result.andThen_ok, List.map_toArray, List.map_cons, List.map_nil, hs, hx, hr]
 ·have hc : isC n2 u2 = isC n2 (fun i => u (n1 + i)) := by
   apply Array.ext_getElem?
   intro j
   by_cases hj : j < n2
   ·rw [isC_get _ _ _ hj, isC_get _ _ _ hj, hf j hj]
   ·rw [Array.getElem?_eq_none (by rw [isC_size]; omega), Array.getElem?_eq_none (by rw [isC_size]; omega)]
  obtain ⟨v', w', hr, h2, h3, _⟩ := run_append_own (P := Tryz.prog) w base 30 o.type 3 i _ 1 8 Tryz.underlying30 hi hz hsz hby rfl (by decide) v1 n1 _ hown ⟨g, 0, none⟩ n2 cap (isC n2 u2).toList (by rw [Array.length_toList, isC_size, Nat.mul_one]) (hown2.cells (g := g) rfl) (isC_all _ _) (by unfold maxLen; omega) (by omega) hbase
  rw [hc, isC_app] at h2
  refine pw_run hw v' w' ?_ (h v' w' h2 ⟨h3.os, h3.tape, h3.output, h3.size, fun k hk hn => h3.block k hk fun e => ?_⟩)
  ·unfold execOp
   simp only [ho, resolve, invoke, builtin, Sem.run_bind, Sem.run_pure, Result.andThen_ok, List.map_toArray, List.map_cons, List.map_nil, hs, hx, hr]
  ·rw [← e] at hn
   simp at hn
end
theorem rmays_any (ab : Option Addr) (n c : Nat) (I : Nat → Int) (Y : Nat → Nat) (gb ob : Nat) (bcs : Array Value) (tb : TypeId) (w : World) (hn : n < 4611686018427387904) (hna : ElsAt 5 w ab n (fun k => shC (I k) (Y k)) gb ob bcs tb) :
  Calls Tryz.prog 30 #[.slice ab n c] w fun e w' => e = .returned (.bool (apB 1 I n)) ∧ Below w.heap.size w w' := by
 have HB : Hid (ElsAt 5 w ab n (fun k => shC (I k) (Y k)) gb ob bcs tb) := hna
 clear hna
 go_enter Tryz.func30, Tryz.ntmps30
 have sb := sbmk w
 iterate 2 go_step
 refine rp ?_;refine p_v (.bool false) (fun _ => rfl) (pw_nil ?_);simp only [pv]
 iterate 4 go_step
 refine rp ?_;refine p_v (.int .i64 0) (fun _ => rfl) (pw_nil ?_);simp only [pv]
 go_wp2_with fail
 go_loopg [3, 4] n (fun x s3 s4 wr => ∃ i : Nat, i + x = n ∧ s3 = .int .i64 i ∧ apB 1 I i = true ∧ Below w.heap.size w wr)
 case atStart => exact ⟨0, by omega, rfl, rfl, sb⟩
 case round =>
  clear sb
  obtain ⟨i, hi, rfl, hap, sb⟩ := hrel
  cases gk with
  | zero =>
   obtain rfl : i = n := by omega
   have HF : Hid (apB 1 I i = true) := hap
   clear hi hap
   iterate 2 go_step
   refine rp ?_;refine p_m ?_;refine p_m ?_;simp only [pv];refine p_v (.int .i64 i) (n_l ab i c sl_shs) ?_;refine p_v (.bool false) (lt_f i i) (pw_nil ?_);simp only [pv]
   iterate 7 go_step
   refine rp ?_;refine p_v (.bool true) (fun _ => rfl) (pw_nil ?_);simp only [pv]
   go_wp2
   go_ret
   exact ⟨by rw [HF.out]; rfl, sb⟩
  | succ x =>
   have hlt : i < n := by omega
   have hst := apB_step 1 I i
   iterate 2 go_step
   refine rp ?_;refine p_m ?_;refine p_m ?_;simp only [pv];refine p_v (.int .i64 n) (n_l ab n c sl_shs) ?_;refine p_v (.bool true) (lt_t i n) (pw_nil ?_);simp only [pv]
   obtain h0 | ⟨rfl, rB, hbt⟩ := (HB.out.below sb).at'
   ·exact absurd h0 (by omega)
   have hbt' := hbt i hlt
   clear hbt
   by_cases h1 : I i < 1
   ·have HF : Hid (apB 1 I n = false) := apB_up (k := i + 1) (Bool.eq_false_iff.2 fun h => absurd (hst.1 h).2.1 (by omega)) n (by omega)
    clear hst
    iterate 10 go_step
    refine rp ?_;refine p_m ?_;refine p_m ?_;simp only [pv];refine p_x i hlt Tryz.underlying59 size_sh5 ?_;simp only [pv];refine p_v (.pointer (some ⟨gb, ob + i * 5, none⟩)) (exec_field 48 _ 0 rfl gb (ob + i * 5) rfl _ Tryz.underlying48 _ rfl 0 Tryz.sizeOf3) ?_;simp only [pv];refine p_d (ob + i * 5) rB (.int .i64 (I i)) (shp_i hbt') Tryz.isAgg3 ?_;simp only [pv];refine p_v (.bool true) (exec_lt_b _ _ _ _ rfl (I i) 1 rfl rfl true (decide_eq_true h1)) ?_;refine p_m ?_;refine p_s ?_;refine p_s ?_;refine p_s ?_;simp only [pv];refine p_s ?_;refine p_s ?_;refine p_s ?_;refine p_k true (.bool true) (pw_nil ?_);simp only [pv];clear rB
    iterate 4 go_step
    refine rp ?_;refine p_v (.bool false) (fun _ => rfl) (pw_nil ?_);simp only [pv]
    go_wp2
    go_ret
    exact ⟨by rw [HF.out]; rfl, sb⟩
   ·by_cases h7 : 7 < I i
    ·have HF : Hid (apB 1 I n = false) := apB_up (k := i + 1) (Bool.eq_false_iff.2 fun h => absurd (hst.1 h).2.2.1 (by omega)) n (by omega)
     clear hst
     iterate 10 go_step
     refine rp ?_;refine p_m ?_;refine p_m ?_;simp only [pv];refine p_x i hlt Tryz.underlying59 size_sh5 ?_;simp only [pv];refine p_v (.pointer (some ⟨gb, ob + i * 5, none⟩)) (exec_field 48 _ 0 rfl gb (ob + i * 5) rfl _ Tryz.underlying48 _ rfl 0 Tryz.sizeOf3) ?_;simp only [pv];refine p_d (ob + i * 5) rB (.int .i64 (I i)) (shp_i hbt') Tryz.isAgg3 ?_;simp only [pv];refine p_v (.bool false) (exec_lt_b _ _ _ _ rfl (I i) 1 rfl rfl false (decide_eq_false h1)) ?_;refine p_m ?_;refine p_m ?_;refine p_m ?_;simp only [pv];refine p_x i hlt Tryz.underlying59 size_sh5 ?_;simp only [pv];refine p_v (.pointer (some ⟨gb, ob + i * 5, none⟩)) (exec_field 48 _ 0 rfl gb (ob + i * 5) rfl _ Tryz.underlying48 _ rfl 0 Tryz.sizeOf3) ?_;simp only [pv];refine p_d (ob + i * 5) rB (.int .i64 (I i)) (shp_i hbt') Tryz.isAgg3 ?_;simp only [pv];refine p_v (.bool true) (exec_gt_i _ _ _ _ rfl (I i) 7 rfl rfl true (decide_eq_true h7)) ?_;refine p_k false (.bool true) (pw_nil ?_);simp only [pv];clear rB
     iterate 4 go_step
     refine rp ?_;refine p_v (.bool false) (fun _ => rfl) (pw_nil ?_);simp only [pv]
     go_wp2
     go_ret
     exact ⟨by rw [HF.out]; rfl, sb⟩
    ·have HST : Hid (apB 1 I (i + 1) = true ↔ snB I i (I i) = false) := ⟨fun h => (hst.1 h).2.2.2, fun h => hst.2 ⟨hap, by omega, by omega, h⟩⟩
     clear hst
     iterate 10 go_step
     refine rp ?_;refine p_m ?_;refine p_m ?_;simp only [pv];refine p_x i hlt Tryz.underlying59 size_sh5 ?_;simp only [pv];refine p_v (.pointer (some ⟨gb, ob + i * 5, none⟩)) (exec_field 48 _ 0 rfl gb (ob + i * 5) rfl _ Tryz.underlying48 _ rfl 0 Tryz.sizeOf3) ?_;simp only [pv];refine p_d (ob + i * 5) rB (.int .i64 (I i)) (shp_i hbt') Tryz.isAgg3 ?_;simp only [pv];refine p_v (.bool false) (exec_lt_b _ _ _ _ rfl (I i) 1 rfl rfl false (decide_eq_false h1)) ?_;refine p_m ?_;refine p_m ?_;refine p_m ?_;simp only [pv];refine p_x i hlt Tryz.underlying59 size_sh5 ?_;simp only [pv];refine p_v (.pointer (some ⟨gb, ob + i * 5, none⟩)) (exec_field 48 _ 0 rfl gb (ob + i * 5) rfl _ Tryz.underlying48 _ rfl 0 Tryz.sizeOf3) ?_;simp only [pv];refine p_d (ob + i * 5) rB (.int .i64 (I i)) (shp_i hbt') Tryz.isAgg3 ?_;simp only [pv];refine p_v (.bool false) (exec_gt_i _ _ _ _ rfl (I i) 7 rfl rfl false (decide_eq_false h7)) ?_;refine p_k false (.bool false) (pw_nil ?_);simp only [pv];clear rB hbt'
     iterate 7 go_step
     refine rp ?_;refine p_v (.int .i64 0) (fun _ => rfl) (pw_nil ?_);simp only [pv]
     go_wp2_with fail
     go_loopg [4] i (fun z s4 wr => ∃ k : Nat, k + z = i ∧ s4 = .int .i64 k ∧ (∀ j, j < k → I j ≠ I i) ∧ Below w.heap.size w wr)
     case atStart => exact ⟨0, by omega, rfl, fun j hj => absurd hj (by omega), sb⟩
     case round =>
      clear sb
      obtain ⟨k, hk, rfl, hne, sb⟩ := hrel
      cases gk with
      | zero =>
       obtain rfl : k = i := by omega
       have hnx : apB 1 I (k + 1) = true := HST.out.2 (Bool.eq_false_iff.2 fun h => by
        obtain ⟨j, hj, e⟩ := (snB_iff I (I k) k).1 h
        exact hne j hj e)
       clear hk hne
       iterate 2 go_step
       refine rp ?_;refine p_m ?_;refine p_m ?_;refine p_v (.bool false) (lt_f k k) (pw_nil ?_);simp only [pv]
       iterate 6 go_step
       refine rp ?_;refine p_m ?_;simp only [pv];refine p_v (.int .i64 ((k + 1 : Nat) : Int)) (x_a k 1) ?_;refine p_a (pw_nil ?_);simp only [pv]
       go_wp2
       go_roundg x
       case measure => omega
       case rel => exact ⟨k + 1, by omega, rfl, hnx, sb⟩
      | succ z =>
       have hlk : k < n := by omega
       obtain h0 | ⟨_, rB, hbt⟩ := (HB.out.below sb).at'
       ·exact absurd h0 (by omega)
       have hb1 := hbt k hlk
       have hb2 := hbt i hlt
       clear hbt
       iterate 2 go_step
       refine rp ?_;refine p_m ?_;refine p_m ?_;refine p_v (.bool true) (lt_t k i) (pw_nil ?_);simp only [pv]
       by_cases he : I k = I i
       ·have HF : Hid (apB 1 I n = false) := apB_up (k := i + 1) (Bool.eq_false_iff.2 fun h => by
         have := HST.out.1 h
         rw [(snB_iff I (I i) i).2 ⟨k, by omega, he⟩] at this
         cases this) n (by omega)
        iterate 9 go_step
        refine wp_region_qw (by kernel_rfl) (by kernel_rfl) ?_;refine q_m ?_;refine q_m ?_;simp only [pv];refine q_x k hlk Tryz.underlying59 size_sh5 ?_;simp only [pv];refine q_v (.pointer (some ⟨gb, ob + k * 5, none⟩)) (exec_field 48 _ 0 rfl gb (ob + k * 5) rfl _ Tryz.underlying48 _ rfl 0 Tryz.sizeOf3) ?_;simp only [pv];refine qw_loadcR (by rfl) 3 _ rfl _ (ob + k * 5) rfl rB (.int .i64 (I k)) (shp_i hb1) Tryz.isAgg3 ?_;refine q_m ?_;refine q_m ?_;simp only [pv];refine q_x i hlt Tryz.underlying59 size_sh5 ?_;simp only [pv];refine q_v (.pointer (some ⟨gb, ob + i * 5, none⟩)) (exec_field 48 _ 0 rfl gb (ob + i * 5) rfl _ Tryz.underlying48 _ rfl 0 Tryz.sizeOf3) ?_;simp only [pv];refine qw_loadcR (by rfl) 3 _ rfl _ (ob + i * 5) rfl rB (.int .i64 (I i)) (shp_i hb2) Tryz.isAgg3 ?_;simp only [pv];refine q_v (.bool true) (exec_eql_k .i64 _ _ _ _ rfl (I k) (I i) rfl rfl true (decide_eq_true he)) ?_;simp only [pv];refine qw_nil ?_;intro w6 hqb;replace sb := b_o sb hqb;clear hqb rB
        iterate 4 go_step
        refine rp ?_;refine p_v (.bool false) (fun _ => rfl) (pw_nil ?_);simp only [pv]
        go_wp2
        go_ret
        exact ⟨by rw [HF.out]; rfl, sb⟩
       ·have hne2 : ∀ j, j < k + 1 → I j ≠ I i := fun j hj => by
         by_cases e : j = k
         ·rw [e]; exact he
         ·exact hne j (by omega)
        iterate 9 go_step
        refine wp_region_qw (by kernel_rfl) (by kernel_rfl) ?_;refine q_m ?_;refine q_m ?_;simp only [pv];refine q_x k hlk Tryz.underlying59 size_sh5 ?_;simp only [pv];refine q_v (.pointer (some ⟨gb, ob + k * 5, none⟩)) (exec_field 48 _ 0 rfl gb (ob + k * 5) rfl _ Tryz.underlying48 _ rfl 0 Tryz.sizeOf3) ?_;simp only [pv];refine qw_loadcR (by rfl) 3 _ rfl _ (ob + k * 5) rfl rB (.int .i64 (I k)) (shp_i hb1) Tryz.isAgg3 ?_;refine q_m ?_;refine q_m ?_;simp only [pv];refine q_x i hlt Tryz.underlying59 size_sh5 ?_;simp only [pv];refine q_v (.pointer (some ⟨gb, ob + i * 5, none⟩)) (exec_field 48 _ 0 rfl gb (ob + i * 5) rfl _ Tryz.underlying48 _ rfl 0 Tryz.sizeOf3) ?_;simp only [pv];refine qw_loadcR (by rfl) 3 _ rfl _ (ob + i * 5) rfl rB (.int .i64 (I i)) (shp_i hb2) Tryz.isAgg3 ?_;simp only [pv];refine q_v (.bool false) (exec_eql_k .i64 _ _ _ _ rfl (I k) (I i) rfl rfl false (decide_eq_false he)) ?_;simp only [pv];refine qw_nil ?_;intro w6 hqb;replace sb := b_o sb hqb;clear hqb rB
        iterate 6 go_step
        refine rp ?_;refine p_m ?_;simp only [pv];refine p_v (.int .i64 ((k + 1 : Nat) : Int)) (x_a k 1) ?_;refine p_a (pw_nil ?_);simp only [pv]
        go_wp2
        go_roundg z
        case measure => omega
        case rel => exact ⟨k + 1, by omega, rfl, hne2, sb⟩
theorem rplc_any (ab : Option Addr) (n c Q : Nat) (J Y : Nat → Nat) (gb ob : Nat) (bcs : Array Value) (tb : TypeId) (w : World) (hn : n ≤ 100) (h0 : 0 < Q) (hQ : Q < 4611686018427387904) (hY : ∀ k, k < n → Y k < 2 ^ 256) (hna : ElsAt 5 w ab n (fun k => shC ((J k : Nat) : Int) (Y k)) gb ob bcs tb) :
  Calls Tryz.prog 62 #[.slice ab n c, .int .i64 (Q : Nat)] w fun e w' => ∃ vx vy, e = .returned (.tuple #[vx, vy]) ∧ OwnI w' w.heap.size vx n J ∧ OwnI w' w.heap.size vy n (fun k => Y k % Q) ∧ Below w.heap.size w w' := by
 obtain ⟨ie, hie, hz, hsz, _⟩ := info_int'
 have hs1 : ¬ 1 * ie.size > 2 ^ 24 := by rw [hsz]; decide
 have hs2 : ¬ 1 * ie.size = 0 := by rw [hsz]; decide
 have hl1 := fun a => lit_i1 a ie.size hsz
 have hby := fun k w' (hk : k < n) => rby_any (Y k) Q w' (hY k hk) h0 hQ
 have HB : Hid (ElsAt 5 w ab n (fun k => shC ((J k : Nat) : Int) (Y k)) gb ob bcs tb) := hna
 clear hna hsz hY
 go_enter Tryz.func62, Tryz.ntmps62
 have sb := sbmk w
 iterate 2 go_step
 refine rp ?_;refine p_v (.slice none 0 0) ((fun _ => rfl)) ?_;simp only [pv];refine p_v (.slice none 0 0) ((fun _ => rfl)) (pw_nil ?_);simp only [pv]
 iterate 3 go_step
 refine rp ?_;refine p_v (.slice none 0 0) ((fun _ => rfl)) ?_;simp only [pv];refine p_v (.slice none 0 0) ((fun _ => rfl)) (pw_nil ?_);simp only [pv]
 iterate 4 go_step
 refine rp ?_;refine p_v (.int .i64 0) (fun _ => rfl) (pw_nil ?_);simp only [pv]
 go_wp2_with fail
 go_loopg [6, 7, 8] n (fun x s6 s7 s8 wr => ∃ i : Nat, i + x = n ∧ s8 = .int .i64 i ∧ OwnI wr w.heap.size s6 i J ∧ OwnI wr w.heap.size s7 i (fun k => Y k % Q) ∧ (∀ b, s7.ownBlock = some b → s6.ownBlock ≠ some b) ∧ Below w.heap.size w wr)
 case atStart => exact ⟨0, by omega, rfl, ownI_nil _ _ _, ownI_nil _ _ _, nofun, sb⟩
 case round =>
  clear sb
  obtain ⟨i, hi, rfl, hX, hY, zhXxhY, sb⟩ := hrel
  have zhYxhX := own_sym zhXxhY
  cases gk with
  | zero =>
   obtain rfl : i = n := by omega
   clear hi hby zhXxhY zhYxhX
   iterate 2 go_step
   refine rp ?_;refine p_m ?_;refine p_m ?_;simp only [pv];refine p_v (.int .i64 i) (n_l ab i c sl_shs) ?_;refine p_v (.bool false) (lt_f i i) (pw_nil ?_);simp only [pv]
   iterate 7 go_step
   refine rp ?_;refine p_m ?_;refine p_m ?_;refine p_a ?_;refine p_a (pw_nil ?_);simp only [pv]
   go_wp2
   go_ret2
   first | exact ⟨_, _, rfl, hX, hY, sb⟩ | exact ⟨_, hX, _, rfl, hY, sb⟩
  | succ x =>
   have hlt : i < n := by omega
   have hbk := fun w' => hby i w' hlt
   clear hby
   iterate 2 go_step
   refine rp ?_;refine p_m ?_;refine p_m ?_;simp only [pv];refine p_v (.int .i64 n) (n_l ab n c sl_shs) ?_;refine p_v (.bool true) (lt_t i n) (pw_nil ?_);simp only [pv]
   obtain h0 | ⟨rfl, rB, hbt⟩ := (HB.out.below sb).at'
   ·exact absurd h0 (by omega)
   have hbt' := hbt i hlt
   clear hbt
   iterate 9 go_step
   refine rp ?_;refine p_m ?_;refine p_m ?_;refine p_m ?_;simp only [pv];refine p_x i hlt Tryz.underlying59 size_sh5 ?_;simp only [pv];refine p_v (.pointer (some ⟨gb, ob + i * 5, none⟩)) (exec_field 48 _ 0 rfl gb (ob + i * 5) rfl _ Tryz.underlying48 _ rfl 0 Tryz.sizeOf3) ?_;simp only [pv];refine p_d (ob + i * 5) rB (.int .i64 ((J i : Nat) : Int)) (shp_i hbt') Tryz.isAgg3 ?_;simp only [pv];refine pw_litr (by rfl) 30 3 1 _ rfl #[.int .i64 ((J i : Nat) : Int)] ie _ Tryz.underlying30 hie hz hs1 hs2 [(0, .int .i64 ((J i : Nat) : Int))] rfl (hl1 _) ?_;intro gA z5006 n0 rA k;simp only [pv];clear n0
   replace hX := hX.on k (own_ne0 _)
   replace hY := hY.on k (own_ne0 _)
   replace sb := kk sb k;clear k;refine pw_appI (by rfl) _ _ rfl (w.heap.size) (_) (i) (J) rfl hX gA _ rfl rA ((by omega)) sb.size ?_
   have h0 := hX
   clear hX;intro v1 z5007 hX k hp;simp only [pv]
   have zt := own_two hY hp zhXxhY
   replace hY := hY.on k (own_nin2 zhXxhY)
   clear zhXxhY zhYxhX
   have zhXxhY := zt
   have zhYxhX := own_sym zt
   clear zt;clear hp
   replace sb := sb.trans (k.below w.heap.size sb.size h0.base)
   clear h0;clear k;refine p_a (pw_nil ?_);simp only [pv];clear rB hbt'
   obtain h0 | ⟨_, rB, hbt⟩ := (HB.out.below sb).at'
   ·exact absurd h0 (by omega)
   have hbt' := hbt i hlt
   clear hbt
   iterate 2 go_step
   refine rp ?_;refine p_m ?_;refine p_m ?_;refine p_m ?_;simp only [pv];refine p_x i hlt Tryz.underlying59 size_sh5 ?_;simp only [pv];refine p_v (.pointer (some ⟨gb, ob + i * 5 + 1, none⟩)) (exec_field 48 _ 1 rfl gb (ob + i * 5) rfl _ Tryz.underlying48 _ rfl 3 Tryz.sizeOf40) ?_;simp only [pv];refine pw_loadm (by rfl) 40 _ rfl _ (ob + i * 5 + 1) rfl rB (natC (Y i)) (shp_y hbt') _ Tryz.underlying40 rfl size_nat ?_;refine p_m ?_;simp only [pv];refine p_c 35 Tryz.func35 #[.agg (natC (Y i)), .int .i64 (Q : Nat)] (hbk _) ?_;intro z6007 k;simp only [pv]
   replace hX := hX.on k (own_ne0 _)
   replace hY := hY.on k (own_ne0 _)
   replace sb := kk sb k;clear k;refine pw_litr (by rfl) 30 3 1 _ rfl #[.int .i64 ((Y i % Q : Nat) : Int)] ie _ Tryz.underlying30 hie hz hs1 hs2 [(0, .int .i64 ((Y i % Q : Nat) : Int))] rfl (hl1 _) ?_;intro gD z6008 n0 rD k;simp only [pv];clear n0
   replace hX := hX.on k (own_ne0 _)
   replace hY := hY.on k (own_ne0 _)
   replace sb := kk sb k;clear k;refine pw_appI (by rfl) _ _ rfl (w.heap.size) (_) (i) ((fun k => Y k % Q)) rfl hY gD _ rfl rD ((by omega)) sb.size ?_
   have h0 := hY
   clear hY;intro v1 z6009 hY k hp;simp only [pv]
   have zt := own_two hX hp zhYxhX
   replace hX := hX.on k (own_nin2 zhYxhX)
   clear zhYxhX zhXxhY
   have zhYxhX := zt
   have zhXxhY := own_sym zt
   clear zt;clear hp
   replace sb := sb.trans (k.below w.heap.size sb.size h0.base)
   clear h0;clear k;refine p_a (pw_nil ?_);simp only [pv];clear rB hbt'
   iterate 2 go_step
   refine rp ?_;refine p_m ?_;simp only [pv];refine p_v (.int .i64 ((i + 1 : Nat) : Int)) (x_a i 1) ?_;refine p_a (pw_nil ?_);simp only [pv]
   go_wp2
   go_roundg x
   case measure => omega
   case rel => exact ⟨i + 1, by omega, rfl, hX, hY, zhXxhY, sb⟩
def IXb (IX : World → Value → Prop) (w : World) (v : Value) : Prop := (∀ w' w2 v, IX w' v → Below w'.heap.size w' w2 → IX w2 v) ∧ IX w v
theorem IXb.below {IX : World → Value → Prop} {w w' : World} {v : Value} (h : IXb IX w v) (hb : Below w.heap.size w w') : IXb IX w' v := ⟨h.1, h.1 _ _ _ h.2 hb⟩
theorem rfrom_core (ab : Option Addr) (n c A P Q G : Nat) (J Yq : Nat → Nat) (WV T X M : Nat → Nat → Nat) (IX : World → Value → Prop) (w : World) (hn : n ≤ 6) (hIb : ∀ w' w2 v, IX w' v → Below w'.heap.size w' w2 → IX w2 v)
  (hIo : ∀ w' b v, OwnI w' b v (n + 1) (Zn J) → IX w' v) (hTl : ∀ j, T j (n + 1) < 2 ^ 256)
  (hpl : ∀ w', Below w.heap.size w w' → Calls Tryz.prog 62 #[.slice ab n c, .int .i64 (Q : Nat)] w' fun e w2 => ∃ vx vy, e = .returned (.tuple #[vx, vy]) ∧ OwnI w2 w'.heap.size vx n J ∧ OwnI w2 w'.heap.size vy n Yq ∧ Below w'.heap.size w' w2)
  (hlo : ∀ w', Calls Tryz.prog 50 #[.agg (natC A)] w' (Rt (.tuple #[.int .i64 (A : Nat), .bool true]) w'))
  (hth : ∀ i, i < n + 1 → ∀ w' gU {ap cp}, IX w' (.slice ap (n + 1) cp) → Row w' gU (isC (n + 1) (onK i)) 3 → Calls Tryz.prog 63 #[.slice ap (n + 1) cp, .slice (some ⟨gU, 0, none⟩) (n + 1) (n + 1), .int .i64 (Q : Nat)] w' fun e w2 => ∃ av lv cv gv ov bv tv, e = .returned (.slice av lv cv) ∧ lv ≤ n + 1 ∧ NumsAt w2 av lv (fun j => WV j i) gv ov bv tv ∧ (∀ j, lv ≤ j → WV j i = 0) ∧ Below w'.heap.size w' w2)
  (hi1' : ∀ j i w', j < n + 1 → i < n + 1 → Calls Tryz.prog 47 #[.int .i64 (WV j i : Nat)] w' (Rt (.agg (natC (WV j i))) w'))
  (hx0 : ∀ j w', Calls Tryz.prog 32 #[.agg (smC (P : Nat) (Q : Nat) (G : Nat)), .int .i64 (A : Nat), .agg (natC (WV j 0))] w' (Rt (.int .i64 (X j 0 : Nat)) w'))
  (hm8 : ∀ j k w', Calls Tryz.prog 64 #[.int .i64 (WV j (k + 1) : Nat), .int .i64 (Yq k : Nat), .int .i64 (Q : Nat)] w' (Rt (.int .i64 (M j k : Nat)) w'))
  (hi2' : ∀ j k w', Calls Tryz.prog 47 #[.int .i64 (M j k : Nat)] w' (Rt (.agg (natC (M j k))) w'))
  (hx1 : ∀ j k w', Calls Tryz.prog 32 #[.agg (smC (P : Nat) (Q : Nat) (G : Nat)), .int .i64 (G : Nat), .agg (natC (M j k))] w' (Rt (.int .i64 (X j (k + 1) : Nat)) w'))
  (hmu : ∀ j i w', Calls Tryz.prog 48 #[.agg (smC (P : Nat) (Q : Nat) (G : Nat)), .int .i64 (T j i : Nat), .int .i64 (X j i : Nat)] w' (Rt (.int .i64 (T j (i + 1) : Nat)) w'))
  (hT0 : ∀ j, T j 0 = 1)
  (hi3 : ∀ j w', Calls Tryz.prog 47 #[.int .i64 (T j (n + 1) : Nat)] w' (Rt (.agg (natC (T j (n + 1)))) w')) :
  Calls Tryz.prog 31 #[.agg (smC (P : Nat) (Q : Nat) (G : Nat)), .agg (natC A), .slice ab n c] w fun e w' => ∃ ax cx gx cur, e = .returned (.slice ax (n + 1) cx) ∧ NatsAt w' ax (n + 1) (fun j => T j (n + 1)) gx 0 cur 40 ∧ Below w.heap.size w w' := by
 obtain ⟨iei, hiei, hzi, hszi, hbyi⟩ := info_int'
 obtain ⟨ie, hie, hz, hsz, hby⟩ := info_nat'
 have hi1 : ¬ 1 * iei.size > 2 ^ 24 := by rw [hszi]; decide
 have hi2 : ¬ 1 * iei.size = 0 := by rw [hszi]; decide
 have hli := fun a => lit_i1 a iei.size hszi
 have h11 : ¬ 1 * ie.size > 2 ^ 24 := by rw [hsz]; decide
 have h12 : ¬ 1 * ie.size = 0 := by rw [hsz]; decide
 have hl1 := fun A => lit_one A ie.size hsz
 obtain ⟨S, hS⟩ : ∃ S : Nat → Nat, ∀ j, T j (n + 1) = S j := ⟨_, fun _ => rfl⟩
 simp only [hS] at hTl hi3 ⊢
 have HS : Hid (∀ j, T j (n + 1) = S j) := hS
 have HT0 : Hid (∀ j, T j 0 = 1) := hT0
 clear hS hT0
 go_enter Tryz.func31, Tryz.ntmps31
 iterate 2 go_step
 refine rp ?_;refine pw_boxr (by rfl) 27 _ rfl (smC (P : Nat) (Q : Nat) (G : Nat)) rfl ?_;intro g3 z0 n0 r3 k;simp only [pv];clear n0
 have sb := k_b k
 clear k;refine pw_boxr (by rfl) 40 _ rfl (natC A) rfl ?_;intro g4 z1 n0 r4 k;simp only [pv];clear n0;replace r3 := k.ro r3;replace sb := kk sb k;clear k;refine p_v (.slice none 0 0) ((fun _ => rfl)) (pw_nil ?_);simp only [pv]
 iterate 3 go_step
 refine rp ?_;refine p_m ?_;simp only [pv];refine p_v (.pointer (some ⟨g3, 0 + 1, none⟩)) (exec_field 27 _ 1 rfl g3 0 rfl _ Tryz.underlying27 _ rfl 0 Tryz.sizeOf3) ?_;simp only [pv];refine p_d (0 + 1) r3.r (.int .i64 (Q : Nat)) rfl Tryz.isAgg3 ?_;simp only [pv];refine p_f 62 Tryz.func62 #[.slice ab n c, .int .i64 (Q : Nat)] (hpl _ sb) ?_
 rintro _ z1003 ⟨vx, vy, rfl, hX, hY, hb⟩
 refine ⟨_, rfl, ?_⟩
 simp only [pv]
 have ehYx3 := hY.low r3.lt
 have ehYx4 := hY.low r4.lt
 have k := Kept.ofBelow hb
 clear hb;replace r3 := k.ro r3;replace r4 := k.ro r4;replace sb := kk sb k;clear k;refine p_m ?_;refine p_e ?_;refine p_e ?_;refine p_a ?_;refine p_a (pw_nil ?_);simp only [pv];clear hpl
 iterate 3 go_step
 refine rp ?_;refine pw_litr (by rfl) 30 3 1 _ rfl #[.int .i64 ((0 : Nat) : Int)] iei _ Tryz.underlying30 hiei hzi hi1 hi2 [(0, .int .i64 ((0 : Nat) : Int))] rfl (hli _) ?_;intro gZ z2000 n0 rZ k;simp only [pv]
 have d3xZ := l_l r3.lt n0
 have d4xZ := l_l r4.lt n0
 have ehXxZ := hX.new n0
 have ehYxZ := hY.new n0
 have bZ := Nat.le_trans sb.size n0
 clear n0;replace r3 := k.ro r3;replace r4 := k.ro r4
 replace hX := hX.on k (own_ne0 _)
 replace hY := hY.on k (own_ne0 _)
 replace sb := kk sb k;clear k;refine p_m ?_;simp only [pv];refine pw_appOI (by rfl) _ _ rfl (w.heap.size) _ (.slice (some ⟨gZ, 0, none⟩) 1 1) (1) (Zn J) rfl (ownI_lit (u := Zn J) rZ bZ) _ (n) (J) rfl hX ((fun i _ => by rw [Nat.add_comm]; rfl)) ((by omega)) sb.size ?_;clear rZ;intro v1 z2002 hP k
 replace k : Kept [gZ] _ _ := k
 simp only [pv];replace r3 := k.ro r3;replace r4 := k.ro r4
 replace hX := hX.on k (own_ne1 ehXxZ)
 replace hY := hY.on k (own_ne1 ehYxZ)
 replace sb := kk sb k;clear k;refine p_a (pw_nil ?_);simp only [pv]
 rw [Nat.add_comm 1 n] at hP
 clear hX
 iterate 3 go_step
 refine rp ?_;refine p_l r4.r ?_;simp only [pv];refine p_c 50 Tryz.func50 #[.agg (natC A)] (hlo _) ?_;intro z3001 k;simp only [pv];replace r3 := k.ro r3;replace r4 := k.ro r4
 replace hP := hP.on k (own_ne0 _)
 replace hY := hY.on k (own_ne0 _)
 replace sb := kk sb k;clear k;refine p_m ?_;refine p_e ?_;refine p_e ?_;refine p_a ?_;refine p_a (pw_nil ?_);simp only [pv];clear hlo
 have hpi := hIo _ _ _ hP
 obtain ⟨ap, cp, rfl⟩ := own_shape hP
 obtain ⟨ay, cy, rfl⟩ := own_shape hY
 obtain ⟨_, gy, cury, hyn⟩ := ownI_nums hY
 have hpi : IXb IX z3001 (.slice ap (n + 1) cp) := ⟨hIb, hpi⟩
 clear hP hY hIo hIb
 iterate 3 go_step
 refine rp ?_;refine p_v (.slice none 0 0) ((fun _ => rfl)) (pw_nil ?_);simp only [pv]
 iterate 4 go_step
 refine rp ?_;refine p_v (.int .i64 0) (fun _ => rfl) (pw_nil ?_);simp only [pv]
 have sd := sbmk z3001
 go_wp2_with fail
 go_loopg [12, 13, 14, 15, 16, 17, 18] (n + 1) (fun x s12 s13 s14 s15 s16 s17 s18 wr => ∃ j : Nat, j + x = n + 1 ∧ s13 = .int .i64 j ∧ OwnN wr z3001.heap.size s12 j S ∧ Below z3001.heap.size z3001 wr)
 case atStart => exact ⟨0, by omega, rfl, ownN_nil _ _ _, sd⟩
 case round =>
  clear sd
  obtain ⟨j, hj, rfl, hO, sd⟩ := hrel
  cases gk with
  | zero =>
   obtain ⟨rfl⟩ : j = n + 1 := by omega
   clear hj hth hi1' hx0 hm8 hi2' hx1 hmu hi3
   obtain ⟨ax, cx, rfl⟩ := own_shape hO
   obtain ⟨_, gx, cur, hnx⟩ := ownN_nats hO (fun i _ => hTl i)
   clear hO;replace sb := b_o sb sd
   iterate 2 go_step
   refine rp ?_;refine p_m ?_;refine p_m ?_;simp only [pv];refine p_v (.int .i64 ((n + 1 : Nat) : Int)) (n_l ap (n + 1) cp sl_intsX) ?_;simp only [pv];refine p_v (.bool false) (lt_f ((n + 1 : Nat) : Int) ((n + 1 : Nat) : Int)) (pw_nil ?_);simp only [pv]
   iterate 7 go_step
   refine rp ?_;refine p_m ?_;refine p_a (pw_nil ?_);simp only [pv]
   go_wp2
   go_ret
   first | exact ⟨ax, ⟨cx, rfl⟩, ⟨gx, cur, hnx⟩, sb⟩ | exact ⟨ax, cx, gx, cur, rfl, hnx, sb⟩
  | succ x =>
   have hlj : j < n + 1 := by omega
   have hj0 := HT0.out j
   have hjS := HS.out j
   have h3j := hi3 j
   clear hTl
   iterate 2 go_step
   refine rp ?_;refine p_m ?_;refine p_m ?_;simp only [pv];refine p_v (.int .i64 ((n + 1 : Nat) : Int)) (n_l ap (n + 1) cp sl_intsX) ?_;simp only [pv];refine p_v (.bool true) (lt_t j ((n + 1 : Nat) : Int)) (pw_nil ?_);simp only [pv]
   iterate 9 go_step
   refine rp ?_;refine p_v (.int .i64 1) (fun _ => rfl) (pw_nil ?_);simp only [pv]
   iterate 4 go_step
   refine rp ?_;refine p_v (.int .i64 0) (fun _ => rfl) (pw_nil ?_);simp only [pv]
   go_wp2_with fail
   go_loopg [14, 15, 16, 17, 18] (n + 1) (fun z s14 s15 s16 s17 s18 wr => ∃ i : Nat, i + z = n + 1 ∧ s15 = .int .i64 i ∧ s14 = .int .i64 (T j i : Nat) ∧ OwnN wr z3001.heap.size u12 j S ∧ Below z3001.heap.size z3001 wr)
   case atStart => exact ⟨0, by omega, rfl, by rw [hj0]; rfl, hO, sd⟩
   case round =>
    clear sd hO
    obtain ⟨i, hi, rfl, rfl, hO, sd⟩ := hrel
    cases gk with
    | zero =>
     obtain ⟨rfl⟩ : i = n + 1 := by omega
     clear hi hth hi1' hx0 hm8 hi2' hx1 hmu
     rw [hjS]
     iterate 2 go_step
     refine rp ?_;refine p_m ?_;refine p_m ?_;simp only [pv];refine p_v (.int .i64 ((n + 1 : Nat) : Int)) (n_l ap (n + 1) cp sl_intsX) ?_;simp only [pv];refine p_v (.bool false) (lt_f ((n + 1 : Nat) : Int) ((n + 1 : Nat) : Int)) (pw_nil ?_);simp only [pv]
     iterate 6 go_step
     refine rp ?_;refine p_m ?_;refine p_m ?_;simp only [pv];refine p_c 47 Tryz.func47 #[.int .i64 (S j : Nat)] (h3j _) ?_;intro z21002 k;simp only [pv]
     replace hO := hO.on k (own_ne0 _)
     replace sd := kk sd k;clear k;refine pw_litr (by rfl) 22 40 1 _ rfl (natC (S j)) ie _ Tryz.underlying22 hie hz h11 h12 [(0, .agg (natC (S j)))] rfl (hl1 _) ?_;intro gN z21003 n0 rN k;simp only [pv];clear n0
     replace hO := hO.on k (own_ne0 _)
     replace sd := kk sd k;clear k;refine pw_appN (by rfl) _ _ rfl (z3001.heap.size) (_) (j) (S) rfl hO gN _ rfl rN ((by omega)) sd.size ?_
     have h0 := hO
     clear hO;intro v1 z21004 hO k hp;simp only [pv];clear hp
     replace sd := sd.trans (k.below z3001.heap.size sd.size h0.base)
     clear h0;clear k;refine p_a (pw_nil ?_);simp only [pv]
     iterate 2 go_step
     refine rp ?_;refine p_m ?_;simp only [pv];refine p_v (.int .i64 ((j + 1 : Nat) : Int)) (x_a j 1) ?_;refine p_a (pw_nil ?_);simp only [pv]
     go_wp2
     go_roundg x
     case measure => omega
     case rel => exact ⟨j + 1, by omega, rfl, hO, sd⟩
    | succ z =>
     have hlt : i < n + 1 := by omega
     have hti := hth i hlt
     replace r3 := r3.belowAll sd
     have hpc := hpi.below sd
     iterate 2 go_step
     refine rp ?_;refine p_m ?_;refine p_m ?_;simp only [pv];refine p_v (.int .i64 ((n + 1 : Nat) : Int)) (n_l ap (n + 1) cp sl_intsX) ?_;simp only [pv];refine p_v (.bool true) (lt_t i ((n + 1 : Nat) : Int)) (pw_nil ?_);simp only [pv]
     iterate 9 go_step
     refine rp ?_;refine p_m ?_;simp only [pv];refine p_v (.int .i64 ((n + 1 : Nat) : Int)) (n_l ap (n + 1) cp sl_intsX) ?_;simp only [pv];refine pw_make (by rfl) 30 3 _ _ rfl iei _ Tryz.underlying30 hiei hzi (n + 1) rfl rfl (by rw [hszi]; omega) (by rw [hbyi]; omega) (by omega) ?_;intro gU z12002 n0 rU k;simp only [pv]
     have d3xU := l_l r3.lt n0
     have ehOxU := hO.new n0
     have bU := Nat.le_trans sd.size n0
     clear n0;replace r3 := k.ro r3;replace hpc := hpc.below k.nil
     replace hO := hO.on k (own_ne0 _)
     replace sd := kk sd k;clear k;refine p_a (pw_nil ?_);simp only [pv]
     rw [hszi, made_ints] at rU
     iterate 3 go_step
     refine rp ?_;refine p_m ?_;refine p_m ?_;simp only [pv];refine p_x i hlt Tryz.underlying30 Tryz.sizeOf3 ?_;simp only [pv];refine pw_putv (by rfl) 3 _ _ rfl _ (0 + i * 1) rfl rU (.int .i64 1) rfl rfl rfl size1tint (by rw [isC_size]; omega) (isC (n + 1) (onK i)) (by rw [show 0 + i * 1 = i by omega]; exact isC_put (n + 1) (fun _ => 0) (onK i) i 1 (fun j _ => rfl)) ?_;clear rU;intro z13003 rU k;simp only [Act.put];replace r3 := k.ro r3
     replace hO := hO.on k (own_ne1 ehOxU)
     replace sd := kk sd k;clear k;refine pw_nil ?_
     iterate 3 go_step
     refine rp ?_;refine p_m ?_;refine p_m ?_;simp only [pv];refine p_v (.pointer (some ⟨g3, 0 + 1, none⟩)) (exec_field 27 _ 1 rfl g3 0 rfl _ Tryz.underlying27 _ rfl 0 Tryz.sizeOf3) ?_;simp only [pv];refine p_d (0 + 1) r3.r (.int .i64 (Q : Nat)) rfl Tryz.isAgg3 ?_;simp only [pv];refine p_f 63 Tryz.func63 #[.slice ap (n + 1) cp, .slice (some ⟨gU, 0, none⟩) (n + 1) (n + 1), .int .i64 (Q : Nat)] (hti _ gU (hpi.below sd).2 rU) ?_
     rintro _ z14004 ⟨av, lv, cv, gv, ov, bv, tv, rfl, hlv, hnv, hz0, hb⟩
     refine ⟨_, rfl, ?_⟩
     simp only [pv]
     have k := Kept.ofBelow hb
     clear hb;replace r3 := k.ro r3
     replace hO := hO.on k (own_ne0 _)
     replace rU := k.ro rU;replace sd := kk sd k;clear k;refine p_a (pw_nil ?_);simp only [pv];clear rU hti hpc
     iterate 3 go_step
     refine rp ?_;refine p_v (.int .i64 0) (fun _ => rfl) (pw_nil ?_);simp only [pv]
     by_cases hjl : j < lv
     ·obtain h0 | ⟨rfl, rV, hvt⟩ := hnv.at'
      ·exact absurd h0 (by omega)
      have hvt' := hvt j hjl
      clear hvt
      iterate 4 go_step
      refine rp ?_;refine p_m ?_;refine p_m ?_;simp only [pv];refine p_v (.int .i64 lv) (n_l (some ⟨gv, ov, none⟩) lv cv sl_intsX) ?_;refine p_v (.bool true) (lt_t j lv) (pw_nil ?_);simp only [pv]
      iterate 3 go_step
      refine rp ?_;refine p_m ?_;refine p_m ?_;simp only [pv];refine p_x j hjl Tryz.underlying30 Tryz.sizeOf3 ?_;simp only [pv];refine p_d (ov + j * 1) rV (.int .i64 (WV j i : Nat)) hvt' Tryz.isAgg3 ?_;refine p_a (pw_nil ?_);simp only [pv];clear rV hvt' hnv
      cases i with
      | zero =>
       have hik := fun w' => hi1' j 0 w' hlj hlt
       have hxk := fun w' => hx0 j w'
       have hmk := fun w' => hmu j 0 w'
       iterate 3 go_step
       refine rp ?_;refine p_m ?_;simp only [pv];refine p_v (.bool true) (exec_eql_k .i64 _ _ _ _ rfl ((0 : Nat) : Int) 0 rfl rfl true rfl) (pw_nil ?_);simp only [pv]
       iterate 3 go_step
       refine wp_region_qw (by kernel_rfl) (by kernel_rfl) ?_;refine qw_loadm (by rfl) 27 _ rfl _ (0) rfl r3 (smC (P : Nat) (Q : Nat) (G : Nat)) (part_all _) _ Tryz.underlying27 rfl size_sm ?_;refine q_m ?_;simp only [pv];refine qw_loadm (by rfl) 27 _ rfl _ (0) rfl r3 (smC (P : Nat) (Q : Nat) (G : Nat)) (part_all _) _ Tryz.underlying27 rfl size_sm ?_;refine q_m ?_;refine q_m ?_;simp only [pv];refine q_c 47 Tryz.func47 #[.int .i64 ((WV j 0 : Nat) : Int)] hik ?_;simp only [pv];refine q_c 32 Tryz.func32 #[.agg (smC (P : Nat) (Q : Nat) (G : Nat)), .int .i64 (A : Nat), .agg (natC (WV j 0))] hxk ?_;simp only [pv];refine q_c 48 Tryz.func48 #[.agg (smC (P : Nat) (Q : Nat) (G : Nat)), .int .i64 (T j 0 : Nat), .int .i64 (X j 0 : Nat)] hmk ?_;refine q_a ?_;simp only [pv];refine qw_nil ?_;intro w6 hqb
       replace hO := hO.on (Kept.ofBelow hqb) (own_ne0 _)
       replace sd := b_o sd hqb;clear hqb
       iterate 2 go_step
       refine rp ?_;refine p_m ?_;simp only [pv];refine p_v (.int .i64 ((0 + 1 : Nat) : Int)) (x_a (0) 1) ?_;refine p_a (pw_nil ?_);simp only [pv]
       go_wp2
       go_roundg z
       case measure => omega
       case rel => exact ⟨0 + 1, by omega, rfl, rfl, hO, sd⟩
      | succ k =>
       have h8k := fun w' => hm8 j k w'
       have hjk := fun w' => hi2' j k w'
       have hxk := fun w' => hx1 j k w'
       have hmk := fun w' => hmu j (k + 1) w'
       obtain h0 | ⟨rfl, rY, hyt⟩ := (hyn.below sd).at'
       ·exact absurd h0 (by omega)
       have hyt' := hyt k (by omega)
       clear hyt
       iterate 3 go_step
       refine rp ?_;refine p_m ?_;simp only [pv];refine p_v (.bool false) (exec_eql_k .i64 _ _ _ _ rfl ((k + 1 : Nat) : Int) 0 rfl rfl false (decide_eq_false (by omega))) (pw_nil ?_);simp only [pv]
       iterate 3 go_step
       refine wp_region_qw (by kernel_rfl) (by kernel_rfl) ?_;refine qw_loadm (by rfl) 27 _ rfl _ (0) rfl r3 (smC (P : Nat) (Q : Nat) (G : Nat)) (part_all _) _ Tryz.underlying27 rfl size_sm ?_;refine q_m ?_;simp only [pv];refine qw_loadm (by rfl) 27 _ rfl _ (0) rfl r3 (smC (P : Nat) (Q : Nat) (G : Nat)) (part_all _) _ Tryz.underlying27 rfl size_sm ?_;simp only [pv];refine q_v (.pointer (some ⟨g3, 0 + 2, none⟩)) (exec_field 27 _ 2 rfl g3 0 rfl _ Tryz.underlying27 _ rfl 0 Tryz.sizeOf3) ?_;simp only [pv];refine qw_loadc (by rfl) 3 _ rfl _ (0 + 2) rfl r3 (.int .i64 (G : Nat)) rfl Tryz.isAgg3 ?_;refine q_m ?_;refine q_m ?_;refine q_m ?_;simp only [pv];refine q_v (.int .i64 (k : Nat)) ((fun w' => exec_sub_in _ _ _ _ rfl (k + 1) 1 rfl rfl (by omega) (by omega) w')) ?_;simp only [pv];refine q_v (.pointer (some ⟨gy, 0 + k * 1, none⟩)) ((exec_index_s 30 _ _ rfl gy 0 (n) (cy) rfl (k) rfl ((by omega)) _ Tryz.underlying30 1 Tryz.sizeOf3)) ?_;simp only [pv];refine qw_loadcR (by rfl) 3 _ rfl _ (0 + k * 1) rfl rY (.int .i64 (Yq k : Nat)) hyt' Tryz.isAgg3 ?_;simp only [pv];refine q_v (.pointer (some ⟨g3, 0 + 1, none⟩)) (exec_field 27 _ 1 rfl g3 0 rfl _ Tryz.underlying27 _ rfl 0 Tryz.sizeOf3) ?_;simp only [pv];refine qw_loadc (by rfl) 3 _ rfl _ (0 + 1) rfl r3 (.int .i64 (Q : Nat)) rfl Tryz.isAgg3 ?_;simp only [pv];refine q_c 64 Tryz.func64 #[.int .i64 ((WV j (k + 1) : Nat) : Int), .int .i64 (Yq k : Nat), .int .i64 (Q : Nat)] h8k ?_;simp only [pv];refine q_c 47 Tryz.func47 #[.int .i64 (M j k : Nat)] hjk ?_;simp only [pv];refine q_c 32 Tryz.func32 #[.agg (smC (P : Nat) (Q : Nat) (G : Nat)), .int .i64 (G : Nat), .agg (natC (M j k))] hxk ?_;simp only [pv];refine q_c 48 Tryz.func48 #[.agg (smC (P : Nat) (Q : Nat) (G : Nat)), .int .i64 (T j (k + 1) : Nat), .int .i64 (X j (k + 1) : Nat)] hmk ?_;refine q_a ?_;simp only [pv];refine qw_nil ?_;intro w6 hqb
       replace hO := hO.on (Kept.ofBelow hqb) (own_ne0 _)
       replace sd := b_o sd hqb;clear hqb;clear rY hyt'
       iterate 2 go_step
       refine rp ?_;refine p_m ?_;simp only [pv];refine p_v (.int .i64 ((k + 1 + 1 : Nat) : Int)) (x_a (k + 1) 1) ?_;refine p_a (pw_nil ?_);simp only [pv]
       go_wp2
       go_roundg z
       case measure => omega
       case rel => exact ⟨k + 1 + 1, by omega, rfl, rfl, hO, sd⟩
     ·have hw0 := hz0 j (by omega)
      clear hnv
      iterate 4 go_step
      refine rp ?_;refine p_m ?_;refine p_m ?_;simp only [pv];refine p_v (.int .i64 lv) (n_l av lv cv sl_intsX) ?_;refine p_v (.bool false) (lt_f j lv) (pw_nil ?_);simp only [pv]
      cases i with
      | zero =>
       have hik := fun w' => hi1' j 0 w' hlj hlt
       have hxk := fun w' => hx0 j w'
       have hmk := fun w' => hmu j 0 w'
       rw [hw0] at hik hxk
       iterate 7 go_step
       refine rp ?_;refine p_m ?_;simp only [pv];refine p_v (.bool true) (exec_eql_k .i64 _ _ _ _ rfl ((0 : Nat) : Int) 0 rfl rfl true rfl) (pw_nil ?_);simp only [pv]
       iterate 3 go_step
       refine wp_region_qw (by kernel_rfl) (by kernel_rfl) ?_;refine qw_loadm (by rfl) 27 _ rfl _ (0) rfl r3 (smC (P : Nat) (Q : Nat) (G : Nat)) (part_all _) _ Tryz.underlying27 rfl size_sm ?_;refine q_m ?_;simp only [pv];refine qw_loadm (by rfl) 27 _ rfl _ (0) rfl r3 (smC (P : Nat) (Q : Nat) (G : Nat)) (part_all _) _ Tryz.underlying27 rfl size_sm ?_;refine q_m ?_;refine q_m ?_;simp only [pv];refine q_c 47 Tryz.func47 #[.int .i64 ((0 : Nat) : Int)] hik ?_;simp only [pv];refine q_c 32 Tryz.func32 #[.agg (smC (P : Nat) (Q : Nat) (G : Nat)), .int .i64 (A : Nat), .agg (natC (0))] hxk ?_;simp only [pv];refine q_c 48 Tryz.func48 #[.agg (smC (P : Nat) (Q : Nat) (G : Nat)), .int .i64 (T j 0 : Nat), .int .i64 (X j 0 : Nat)] hmk ?_;refine q_a ?_;simp only [pv];refine qw_nil ?_;intro w6 hqb
       replace hO := hO.on (Kept.ofBelow hqb) (own_ne0 _)
       replace sd := b_o sd hqb;clear hqb
       iterate 2 go_step
       refine rp ?_;refine p_m ?_;simp only [pv];refine p_v (.int .i64 ((0 + 1 : Nat) : Int)) (x_a (0) 1) ?_;refine p_a (pw_nil ?_);simp only [pv]
       go_wp2
       go_roundg z
       case measure => omega
       case rel => exact ⟨0 + 1, by omega, rfl, rfl, hO, sd⟩
      | succ k =>
       have h8k := fun w' => hm8 j k w'
       have hjk := fun w' => hi2' j k w'
       have hxk := fun w' => hx1 j k w'
       have hmk := fun w' => hmu j (k + 1) w'
       rw [hw0] at h8k
       obtain h0 | ⟨rfl, rY, hyt⟩ := (hyn.below sd).at'
       ·exact absurd h0 (by omega)
       have hyt' := hyt k (by omega)
       clear hyt
       iterate 7 go_step
       refine rp ?_;refine p_m ?_;simp only [pv];refine p_v (.bool false) (exec_eql_k .i64 _ _ _ _ rfl ((k + 1 : Nat) : Int) 0 rfl rfl false (decide_eq_false (by omega))) (pw_nil ?_);simp only [pv]
       iterate 3 go_step
       refine wp_region_qw (by kernel_rfl) (by kernel_rfl) ?_;refine qw_loadm (by rfl) 27 _ rfl _ (0) rfl r3 (smC (P : Nat) (Q : Nat) (G : Nat)) (part_all _) _ Tryz.underlying27 rfl size_sm ?_;refine q_m ?_;simp only [pv];refine qw_loadm (by rfl) 27 _ rfl _ (0) rfl r3 (smC (P : Nat) (Q : Nat) (G : Nat)) (part_all _) _ Tryz.underlying27 rfl size_sm ?_;simp only [pv];refine q_v (.pointer (some ⟨g3, 0 + 2, none⟩)) (exec_field 27 _ 2 rfl g3 0 rfl _ Tryz.underlying27 _ rfl 0 Tryz.sizeOf3) ?_;simp only [pv];refine qw_loadc (by rfl) 3 _ rfl _ (0 + 2) rfl r3 (.int .i64 (G : Nat)) rfl Tryz.isAgg3 ?_;refine q_m ?_;refine q_m ?_;refine q_m ?_;simp only [pv];refine q_v (.int .i64 (k : Nat)) ((fun w' => exec_sub_in _ _ _ _ rfl (k + 1) 1 rfl rfl (by omega) (by omega) w')) ?_;simp only [pv];refine q_v (.pointer (some ⟨gy, 0 + k * 1, none⟩)) ((exec_index_s 30 _ _ rfl gy 0 (n) (cy) rfl (k) rfl ((by omega)) _ Tryz.underlying30 1 Tryz.sizeOf3)) ?_;simp only [pv];refine qw_loadcR (by rfl) 3 _ rfl _ (0 + k * 1) rfl rY (.int .i64 (Yq k : Nat)) hyt' Tryz.isAgg3 ?_;simp only [pv];refine q_v (.pointer (some ⟨g3, 0 + 1, none⟩)) (exec_field 27 _ 1 rfl g3 0 rfl _ Tryz.underlying27 _ rfl 0 Tryz.sizeOf3) ?_;simp only [pv];refine qw_loadc (by rfl) 3 _ rfl _ (0 + 1) rfl r3 (.int .i64 (Q : Nat)) rfl Tryz.isAgg3 ?_;simp only [pv];refine q_c 64 Tryz.func64 #[.int .i64 ((0 : Nat) : Int), .int .i64 (Yq k : Nat), .int .i64 (Q : Nat)] h8k ?_;simp only [pv];refine q_c 47 Tryz.func47 #[.int .i64 (M j k : Nat)] hjk ?_;simp only [pv];refine q_c 32 Tryz.func32 #[.agg (smC (P : Nat) (Q : Nat) (G : Nat)), .int .i64 (G : Nat), .agg (natC (M j k))] hxk ?_;simp only [pv];refine q_c 48 Tryz.func48 #[.agg (smC (P : Nat) (Q : Nat) (G : Nat)), .int .i64 (T j (k + 1) : Nat), .int .i64 (X j (k + 1) : Nat)] hmk ?_;refine q_a ?_;simp only [pv];refine qw_nil ?_;intro w6 hqb
       replace hO := hO.on (Kept.ofBelow hqb) (own_ne0 _)
       replace sd := b_o sd hqb;clear hqb;clear rY hyt'
       iterate 2 go_step
       refine rp ?_;refine p_m ?_;simp only [pv];refine p_v (.int .i64 ((k + 1 + 1 : Nat) : Int)) (x_a (k + 1) 1) ?_;refine p_a (pw_nil ?_);simp only [pv]
       go_wp2
       go_roundg z
       case measure => omega
       case rel => exact ⟨k + 1 + 1, by omega, rfl, rfl, hO, sd⟩
end Go.Proofs.YtgdalihjpemjiaaGreat
