/- poly's Through. -/
import Derived.Test.YthnpeebnmommbaaPyPl
import Derived.OwnWalk
namespace Go.Proofs.Ythnpeebnmommbaa
open Go.RowKit
set_option linter.unusedVariables false
set_option linter.unusedSectionVars false
set_option maxRecDepth 100000 in
set_option maxHeartbeats 2000000 in
theorem pgrp_any (v f : Option Addr) (P Q G : Nat) (r : Option Addr) (w : World) (h : KnAt w v P Q G r f) :
  Calls Try.prog 28 #[.pointer v] w fun e w' => e = .returned (.bool (!f.isNone)) ∧ Below w.heap.size w w' := by
 have hf := fun w' (hb : Below w.heap.size w w') => grpField_any v P Q G r f w' (h.below hb)
 go_enter Try.func28, Try.ntmps28
 have sb := sbmk w
 (repeat ((fail_if_success with_reducible refine rg ?_); go_step))
 refine wp_region_pw ?_
 refine pw_value (by rfl) (.bool false) (fun _ => rfl) ?_
 simp only [Act.put, pu]
 refine pw_nil ?_
 (repeat ((fail_if_success with_reducible refine rg ?_); go_step))
 refine wp_region_pw ?_
 refine pw_mv (by rfl) rfl rfl ?_
 simp only [Act.put, pu]
 refine pw_callB (by rfl) 52 _ _ rfl Try.func52 (by kernel_rfl) #[.pointer v] rfl _ (hf _ sb) ?_
 intro z1001 k
 simp only [Act.put, pu]
 replace sb := sb.trans (k.below w.heap.size sb.size (by simp <;> omega))
 clear k
 refine pw_value (by rfl) (.bool (!f.isNone)) (exec_neq_nilp _ _ _ _ rfl f rfl rfl ptr_ring8) ?_
 simp only [Act.put, pu]
 refine pw_as (by rfl) rfl rfl ?_
 simp only [Act.put, pu]
 refine pw_nil ?_
 go_wp2
 go_ret
 exact ⟨rfl, sb⟩
set_option maxRecDepth 100000 in
set_option maxHeartbeats 2000000 in
theorem thr_nog (v : Option Addr) (ab ae : Option Addr) (n ca m ce : Nat) (w : World) (h : NoG w v) :
  Calls Try.prog 12 #[.pointer v, .slice ab n ca, .slice ae m ce] w fun e w' => e = .returned (.tuple #[.slice none 0 0, .int .i64 1]) ∧ Below w.heap.size w w' := by
 have hg := fun w' (hb : Below w.heap.size w w') => pgrp_any v none 0 0 0 none w' (h.below hb)
 go_enter Try.func12, Try.ntmps12
 have sb := sbmk w
 (repeat ((fail_if_success with_reducible refine rg ?_); go_step))
 refine wp_region_pw ?_
 refine pw_value (by rfl) (.slice none 0 0) ((fun _ => rfl)) ?_
 simp only [Act.put, pu]
 refine pw_value (by rfl) (.int .i64 0) (fun _ => rfl) ?_
 simp only [Act.put, pu]
 refine pw_nil ?_
 (repeat ((fail_if_success with_reducible refine rg ?_); go_step))
 refine wp_region_pw ?_
 refine pw_mv (by rfl) rfl rfl ?_
 simp only [Act.put, pu]
 refine pw_callB (by rfl) 28 _ _ rfl Try.func28 (by kernel_rfl) #[.pointer v] rfl _ (hg _ sb) ?_
 intro z1001 k
 simp only [Act.put, pu]
 replace sb := sb.trans (k.below w.heap.size sb.size (by simp <;> omega))
 clear k
 refine pw_value (by rfl) (.bool true) (exec_not _ _ rfl false rfl) ?_
 simp only [Act.put, pu]
 refine pw_mv (by rfl) rfl rfl ?_
 simp only [Act.put, pu]
 refine pw_skip (by rfl) ?_
 simp only [Act.put, pu]
 refine pw_skip (by rfl) ?_
 simp only [Act.put, pu]
 refine pw_skip (by rfl) ?_
 simp only [Act.put, pu]
 refine pw_skip (by rfl) ?_
 simp only [Act.put, pu]
 refine pw_skip (by rfl) ?_
 simp only [Act.put, pu]
 refine pw_pick (by rfl) true (v := .bool true) rfl rfl rfl ?_
 simp only [Act.put, pu]
 refine pw_mv (by rfl) rfl rfl ?_
 simp only [Act.put, pu]
 refine pw_skip (by rfl) ?_
 simp only [Act.put, pu]
 refine pw_skip (by rfl) ?_
 simp only [Act.put, pu]
 refine pw_skip (by rfl) ?_
 simp only [Act.put, pu]
 refine pw_pick (by rfl) true (v := .bool true) rfl rfl rfl ?_
 simp only [Act.put, pu]
 refine pw_nil ?_
 (repeat ((fail_if_success with_reducible refine rg ?_); go_step))
 refine wp_region_pw ?_
 refine pw_value (by rfl) (.slice none 0 0) ((fun _ => rfl)) ?_
 simp only [Act.put, pu]
 refine pw_value (by rfl) (.int .i64 1) (fun _ => rfl) ?_
 simp only [Act.put, pu]
 refine pw_nil ?_
 go_wp2
 go_ret2
 exact ⟨rfl, sb⟩
set_option maxRecDepth 100000 in
set_option maxHeartbeats 2000000 in
theorem thr_len (g gr gf P Q G : Nat) (ab ae : Option Addr) (n ca m ce : Nat) (w : World) (hnm : n ≠ m) (h : GrpAt w g gr gf P Q G) :
  Calls Try.prog 12 #[.pointer (some ⟨g, 0, none⟩), .slice ab n ca, .slice ae m ce] w fun e w' => e = .returned (.tuple #[.slice none 0 0, .int .i64 1]) ∧ Below w.heap.size w w' := by
 have hg := fun w' (hb : Below w.heap.size w w') => pgrp_any (some ⟨g, 0, none⟩) (some ⟨gf, 0, none⟩) P Q G (some ⟨gr, 0, none⟩) w' (h.below hb).kn
 go_enter Try.func12, Try.ntmps12
 have sb := sbmk w
 (repeat ((fail_if_success with_reducible refine rg ?_); go_step))
 refine wp_region_pw ?_
 refine pw_value (by rfl) (.slice none 0 0) ((fun _ => rfl)) ?_
 simp only [Act.put, pu]
 refine pw_value (by rfl) (.int .i64 0) (fun _ => rfl) ?_
 simp only [Act.put, pu]
 refine pw_nil ?_
 (repeat ((fail_if_success with_reducible refine rg ?_); go_step))
 refine wp_region_pw ?_
 refine pw_mv (by rfl) rfl rfl ?_
 simp only [Act.put, pu]
 refine pw_callB (by rfl) 28 _ _ rfl Try.func28 (by kernel_rfl) #[.pointer (some ⟨g, 0, none⟩)] rfl _ (hg _ sb) ?_
 intro z1001 k
 simp only [Act.put, pu]
 replace sb := sb.trans (k.below w.heap.size sb.size (by simp <;> omega))
 clear k
 refine pw_value (by rfl) (.bool false) (exec_not _ _ rfl true rfl) ?_
 simp only [Act.put, pu]
 refine pw_mv (by rfl) rfl rfl ?_
 simp only [Act.put, pu]
 refine pw_mv (by rfl) rfl rfl ?_
 simp only [Act.put, pu]
 refine pw_value (by rfl) (.int .i64 n) (exec_len_s 22 _ rfl (ab) (n) (ca) rfl sl_natsX) ?_
 simp only [Act.put, pu]
 refine pw_mv (by rfl) rfl rfl ?_
 simp only [Act.put, pu]
 refine pw_value (by rfl) (.int .i64 m) (exec_len_s 22 _ rfl (ae) (m) (ce) rfl sl_natsX) ?_
 simp only [Act.put, pu]
 refine pw_value (by rfl) (.bool true) (exec_neq_k .i64 _ _ _ _ rfl n m rfl rfl true (by rw [decide_eq_false (by omega)]; rfl)) ?_
 simp only [Act.put, pu]
 refine pw_pick (by rfl) false (v := .bool true) rfl rfl rfl ?_
 simp only [Act.put, pu]
 refine pw_mv (by rfl) rfl rfl ?_
 simp only [Act.put, pu]
 refine pw_skip (by rfl) ?_
 simp only [Act.put, pu]
 refine pw_skip (by rfl) ?_
 simp only [Act.put, pu]
 refine pw_skip (by rfl) ?_
 simp only [Act.put, pu]
 refine pw_pick (by rfl) true (v := .bool true) rfl rfl rfl ?_
 simp only [Act.put, pu]
 refine pw_nil ?_
 (repeat ((fail_if_success with_reducible refine rg ?_); go_step))
 refine wp_region_pw ?_
 refine pw_value (by rfl) (.slice none 0 0) ((fun _ => rfl)) ?_
 simp only [Act.put, pu]
 refine pw_value (by rfl) (.int .i64 1) (fun _ => rfl) ?_
 simp only [Act.put, pu]
 refine pw_nil ?_
 go_wp2
 go_ret2
 exact ⟨rfl, sb⟩
set_option maxRecDepth 100000 in
set_option maxHeartbeats 2000000 in
theorem thr_many (g gr gf P Q G : Nat) (ab ae : Option Addr) (n ca ce : Nat) (w : World) (hn : 32 < n) (h : GrpAt w g gr gf P Q G) :
  Calls Try.prog 12 #[.pointer (some ⟨g, 0, none⟩), .slice ab n ca, .slice ae n ce] w fun e w' => e = .returned (.tuple #[.slice none 0 0, .int .i64 1]) ∧ Below w.heap.size w w' := by
 have hg := fun w' (hb : Below w.heap.size w w') => pgrp_any (some ⟨g, 0, none⟩) (some ⟨gf, 0, none⟩) P Q G (some ⟨gr, 0, none⟩) w' (h.below hb).kn
 go_enter Try.func12, Try.ntmps12
 have sb := sbmk w
 (repeat ((fail_if_success with_reducible refine rg ?_); go_step))
 refine wp_region_pw ?_
 refine pw_value (by rfl) (.slice none 0 0) ((fun _ => rfl)) ?_
 simp only [Act.put, pu]
 refine pw_value (by rfl) (.int .i64 0) (fun _ => rfl) ?_
 simp only [Act.put, pu]
 refine pw_nil ?_
 (repeat ((fail_if_success with_reducible refine rg ?_); go_step))
 refine wp_region_pw ?_
 refine pw_mv (by rfl) rfl rfl ?_
 simp only [Act.put, pu]
 refine pw_callB (by rfl) 28 _ _ rfl Try.func28 (by kernel_rfl) #[.pointer (some ⟨g, 0, none⟩)] rfl _ (hg _ sb) ?_
 intro z1001 k
 simp only [Act.put, pu]
 replace sb := sb.trans (k.below w.heap.size sb.size (by simp <;> omega))
 clear k
 refine pw_value (by rfl) (.bool false) (exec_not _ _ rfl true rfl) ?_
 simp only [Act.put, pu]
 refine pw_mv (by rfl) rfl rfl ?_
 simp only [Act.put, pu]
 refine pw_mv (by rfl) rfl rfl ?_
 simp only [Act.put, pu]
 refine pw_value (by rfl) (.int .i64 n) (exec_len_s 22 _ rfl (ab) (n) (ca) rfl sl_natsX) ?_
 simp only [Act.put, pu]
 refine pw_mv (by rfl) rfl rfl ?_
 simp only [Act.put, pu]
 refine pw_value (by rfl) (.int .i64 n) (exec_len_s 22 _ rfl (ae) (n) (ce) rfl sl_natsX) ?_
 simp only [Act.put, pu]
 refine pw_value (by rfl) (.bool false) (exec_neq_k .i64 _ _ _ _ rfl n n rfl rfl false (by rw [decide_eq_true rfl]; rfl)) ?_
 simp only [Act.put, pu]
 refine pw_pick (by rfl) false (v := .bool false) rfl rfl rfl ?_
 simp only [Act.put, pu]
 refine pw_mv (by rfl) rfl rfl ?_
 simp only [Act.put, pu]
 refine pw_mv (by rfl) rfl rfl ?_
 simp only [Act.put, pu]
 refine pw_value (by rfl) (.int .i64 n) (exec_len_s 22 _ rfl (ab) (n) (ca) rfl sl_natsX) ?_
 simp only [Act.put, pu]
 refine pw_value (by rfl) (.bool true) (exec_gt_i _ _ _ _ rfl n 32 rfl rfl true (decide_eq_true (by omega))) ?_
 simp only [Act.put, pu]
 refine pw_pick (by rfl) false (v := .bool true) rfl rfl rfl ?_
 simp only [Act.put, pu]
 refine pw_nil ?_
 (repeat ((fail_if_success with_reducible refine rg ?_); go_step))
 refine wp_region_pw ?_
 refine pw_value (by rfl) (.slice none 0 0) ((fun _ => rfl)) ?_
 simp only [Act.put, pu]
 refine pw_value (by rfl) (.int .i64 1) (fun _ => rfl) ?_
 simp only [Act.put, pu]
 refine pw_nil ?_
 go_wp2
 go_ret2
 exact ⟨rfl, sb⟩
theorem built_one : Try.prog.built 32 [(0, .int .u64 1)] = some (natC 1) := by kernel_rfl
/-- The inverse by Q. -/
def ivF {Q : Nat} [NeZero Q] (x : Fin Q) : Fin Q := fi (invZ x.val Q)
theorem ivF_is {Q : Nat} [NeZero Q] (q : FdQ Q) (a : Fin Q) (h : a ≠ 0) : a * ivF a = 1 := by
 have h1 : a.val % Q ≠ 0 := by
  rw [Nat.mod_eq_of_lt a.isLt]
  exact fun e => h ((val_z a).1 e)
 have h2 := inv_1 q.pr h1
 have h3 : (fi (a.val * invZ a.val Q) : Fin Q) = fi 1 := (fi_eq _ _).2 (by rw [h2, Nat.mod_eq_of_lt (by have := q.pr.1; omega)])
 rw [fi_mul, fi_of] at h3
 exact h3
theorem lit1_pl {Q : Nat} [NeZero Q] {w : World} {g A : Nat} (r : Row w g (natC A) 32) (hA : A < 2 ^ 256) : PlA w (.slice (some ⟨g, 0, none⟩) 1 1) [(fi A : Fin Q)] := by
 exact (nats_one r hA).pl (by decide)
theorem lit2_pl {Q : Nat} [NeZero Q] {w : World} {g A B : Nat} (r : Row w g (natC A ++ natC B) 32) (hA : A < 2 ^ 256) (hB : B < 2 ^ 256) : PlA w (.slice (some ⟨g, 0, none⟩) 2 2) [(fi A : Fin Q), fi B] := by
 exact (nats_two r hA hB).pl (by decide)
set_option maxRecDepth 100000 in
set_option maxHeartbeats 2000000 in
theorem thr_any (g gr gf P Q G n ca ce : Nat) [NeZero Q] (ab ae : Option Addr) (X Y : Nat → Nat) (gb ob ge oe : Nat) (bcs ecs : Array Value) (tb te : TypeId) (w : World) (q : FdQ Q) (hn : n ≤ 32) (hna : NatsAt w ab n X gb ob bcs tb) (hnb : NatsAt w ae n Y ge oe ecs te) (h : GrpAt w g gr gf P Q G) :
  Calls Try.prog 12 #[.pointer (some ⟨g, 0, none⟩), .slice ab n ca, .slice ae n ce] w fun e w' => ∃ vf z, e = .returned (.tuple #[vf, .int .i64 z]) ∧
   ((z = 0 ∧ (∀ k, k < n → pev (fi (X k)) (tGo (fun i => (fi (X i) : Fin Q)) k) ≠ 0) ∧ PlAt w' vf (tTh ivF (fun i => (fi (X i) : Fin Q)) (fun i => (fi (Y i) : Fin Q)) n)) ∨ (z = 1 ∧ vf = .slice none 0 0 ∧ ∃ k, k < n ∧ pev (fi (X k)) (tGo (fun i => (fi (X i) : Fin Q)) k) = 0)) ∧ Below w.heap.size w w' := by
 have HB : Hid (NatsAt w ab n X gb ob bcs tb) := hna
 have HE : Hid (NatsAt w ae n Y ge oe ecs te) := hnb
 have HXl : Hid (∀ k, k < n → X k < 2 ^ 256) := hna.lt
 have HYl : Hid (∀ k, k < n → Y k < 2 ^ 256) := hnb.lt
 have HQ : Hid (∀ x : Fin Q, x.val < 2 ^ 256) := fun x => Nat.lt_trans x.isLt q.m
 clear hna hnb
 obtain ⟨ie, hie, hz, hsz, _⟩ := info_nat'
 have hs1 : ¬ 1 * ie.size > 2 ^ 24 := by rw [hsz]; decide
 have hs2 : ¬ 1 * ie.size = 0 := by rw [hsz]; decide
 have hs3 : ¬ 2 * ie.size > 2 ^ 24 := by rw [hsz]; decide
 have hs4 : ¬ 2 * ie.size = 0 := by rw [hsz]; decide
 have hl1 := fun A => lit_one A ie.size hsz
 have hl2 := fun A B => lit_two A B ie.size hsz
 have hg := fun w' (hb : Below w.heap.size w w') => pgrp_any (some ⟨g, 0, none⟩) (some ⟨gf, 0, none⟩) P Q G (some ⟨gr, 0, none⟩) w' (h.below hb).kn
 go_enter Try.func12, Try.ntmps12
 have sb := sbmk w
 (repeat ((fail_if_success with_reducible refine rg ?_); go_step))
 refine wp_region_pw ?_
 refine pw_value (by rfl) (.slice none 0 0) ((fun _ => rfl)) ?_
 simp only [Act.put, pu]
 refine pw_value (by rfl) (.int .i64 0) (fun _ => rfl) ?_
 simp only [Act.put, pu]
 refine pw_nil ?_
 (repeat ((fail_if_success with_reducible refine rg ?_); go_step))
 refine wp_region_pw ?_
 refine pw_mv (by rfl) rfl rfl ?_
 simp only [Act.put, pu]
 refine pw_callB (by rfl) 28 _ _ rfl Try.func28 (by kernel_rfl) #[.pointer (some ⟨g, 0, none⟩)] rfl _ (hg _ sb) ?_
 intro z1001 k
 simp only [Act.put, pu]
 replace sb := sb.trans (k.below w.heap.size sb.size (by simp <;> omega))
 clear k
 refine pw_value (by rfl) (.bool false) (exec_not _ _ rfl true rfl) ?_
 simp only [Act.put, pu]
 refine pw_mv (by rfl) rfl rfl ?_
 simp only [Act.put, pu]
 refine pw_mv (by rfl) rfl rfl ?_
 simp only [Act.put, pu]
 refine pw_value (by rfl) (.int .i64 n) (exec_len_s 22 _ rfl (ab) (n) (ca) rfl sl_natsX) ?_
 simp only [Act.put, pu]
 refine pw_mv (by rfl) rfl rfl ?_
 simp only [Act.put, pu]
 refine pw_value (by rfl) (.int .i64 n) (exec_len_s 22 _ rfl (ae) (n) (ce) rfl sl_natsX) ?_
 simp only [Act.put, pu]
 refine pw_value (by rfl) (.bool false) (exec_neq_k .i64 _ _ _ _ rfl n n rfl rfl false (by rw [decide_eq_true rfl]; rfl)) ?_
 simp only [Act.put, pu]
 refine pw_pick (by rfl) false (v := .bool false) rfl rfl rfl ?_
 simp only [Act.put, pu]
 refine pw_mv (by rfl) rfl rfl ?_
 simp only [Act.put, pu]
 refine pw_mv (by rfl) rfl rfl ?_
 simp only [Act.put, pu]
 refine pw_value (by rfl) (.int .i64 n) (exec_len_s 22 _ rfl (ab) (n) (ca) rfl sl_natsX) ?_
 simp only [Act.put, pu]
 refine pw_value (by rfl) (.bool false) (exec_gt_i _ _ _ _ rfl n 32 rfl rfl false (decide_eq_false (by omega))) ?_
 simp only [Act.put, pu]
 refine pw_pick (by rfl) false (v := .bool false) rfl rfl rfl ?_
 simp only [Act.put, pu]
 refine pw_nil ?_
 (repeat ((fail_if_success with_reducible refine rg ?_); go_step))
 refine wp_region_pw ?_
 refine pw_value (by rfl) (.slice none 0 0) ((fun _ => rfl)) ?_
 simp only [Act.put, pu]
 refine pw_nil ?_
 (repeat ((fail_if_success with_reducible refine rg ?_); go_step))
 refine wp_region_pw ?_
 refine pw_value (by rfl) (.agg (natC 1)) (exec_buildv _ [(0, .const (.int .u64 1))] rfl [(0, .int .u64 1)] rfl (natC 1) built_one) ?_
 simp only [Act.put, pu]
 refine pw_litr (by rfl) 22 32 1 _ rfl (natC 1) ie _ Try.underlying22 hie hz hs1 hs2 [(0, .agg (natC 1))] rfl (hl1 1) ?_
 intro gL z4001 n0 rL k
 simp only [Act.put, pu]
 have bL := Nat.le_trans sb.size n0
 clear n0
 replace sb := sb.trans (k.below w.heap.size sb.size (by simp <;> omega))
 clear k
 refine pw_as (by rfl) rfl rfl ?_
 simp only [Act.put, pu]
 refine pw_nil ?_
 have hgo : PlA z4001 (.slice (some ⟨gL, 0, none⟩) 1 1) (tGo (fun i => (fi (X i) : Fin Q)) 0) := lit1_pl rL (by decide)
 clear rL bL
 (repeat ((fail_if_success with_reducible refine rg ?_); go_step))
 refine wp_region_pw ?_
 refine pw_mv (by rfl) rfl rfl ?_
 simp only [Act.put, pu]
 refine pw_value (by rfl) (.int .i64 n) (exec_len_s 22 _ rfl (ab) (n) (ca) rfl sl_natsX) ?_
 simp only [Act.put, pu]
 refine pw_value (by rfl) (.int .i64 0) (fun _ => rfl) ?_
 simp only [Act.put, pu]
 refine pw_nil ?_
 go_wp2_with fail
 go_loopg [8, 9, 10, 11, 12, 32] n (fun x s8 s9 s10 s11 s12 s32 wr => ∃ k : Nat, ∃ vf vg : Value, k + x = n ∧ vf = s8 ∧ vg = s9 ∧ s32 = .int .i64 k ∧ PlAt wr vf (tTh ivF (fun i => (fi (X i) : Fin Q)) (fun i => (fi (Y i) : Fin Q)) k) ∧ PlA wr vg (tGo (fun i => (fi (X i) : Fin Q)) k) ∧ (∀ j, j < k → pev (fi (X j)) (tGo (fun i => (fi (X i) : Fin Q)) j) ≠ 0) ∧ Below w.heap.size w wr)
 case atStart => exact ⟨0, _, _, by omega, rfl, rfl, rfl, plAt_nil _, hgo, fun j hj => absurd hj (by omega), sb⟩
 case round =>
  clear hgo sb
  obtain ⟨k, vf, vg, hk, rfl, rfl, rfl, hf, hgo, hnz, sb⟩ := hrel
  cases gk with
  | zero =>
   obtain rfl : k = n := by omega
   clear hk
   have HNZ : Hid (∀ j, j < k → pev (fi (X j)) (tGo (fun i => (fi (X i) : Fin Q)) j) ≠ 0) := hnz
   clear hnz
   (repeat ((fail_if_success with_reducible refine rg ?_); go_step))
   refine wp_region_pw ?_
   refine pw_value (by rfl) (.bool false) (exec_lt_b _ _ _ _ rfl k k rfl rfl false (decide_eq_false (Int.lt_irrefl _))) ?_
   simp only [Act.put, pu]
   refine pw_nil ?_
   (repeat ((fail_if_success with_reducible refine rg ?_); go_step))
   refine wp_region_pw ?_
   refine pw_mv (by rfl) rfl rfl ?_
   simp only [Act.put, pu]
   refine pw_as (by rfl) rfl rfl ?_
   simp only [Act.put, pu]
   refine pw_value (by rfl) (.int .i64 0) (fun _ => rfl) ?_
   simp only [Act.put, pu]
   refine pw_nil ?_
   go_wp2
   go_ret2
   exact ⟨_, _, rfl, .inl ⟨rfl, HNZ.out, hf⟩, sb⟩
  | succ x =>
   have hlt : k < n := by omega
   have HNZ : Hid (∀ j, j < k → pev (fi (X j)) (tGo (fun i => (fi (X i) : Fin Q)) j) ≠ 0) := hnz
   clear hnz
   obtain ⟨T, hT⟩ : ∃ T, pev (fi (X k)) (tGo (fun i => (fi (X i) : Fin Q)) k) = T := ⟨_, rfl⟩
   have hfl := tTh_length ivF (fun i => (fi (X i) : Fin Q)) (fun i => (fi (Y i) : Fin Q)) k
   have hev := fun w' (hb : Below w.heap.size w w') (hg : PlA w' vg (tGo (fun i => (fi (X i) : Fin Q)) k)) => evalQ vg _ (X k) (HXl.out k hlt) q (h.below hb) hg
   rw [hT] at hev
   have het := (HQ.out T)
   (repeat ((fail_if_success with_reducible refine rg ?_); go_step))
   refine wp_region_pw ?_
   refine pw_value (by rfl) (.bool true) (exec_lt_b _ _ _ _ rfl k n rfl rfl true (decide_eq_true (by omega))) ?_
   simp only [Act.put, pu]
   refine pw_nil ?_
   (repeat ((fail_if_success with_reducible refine rg ?_); go_step))
   refine wp_region_pw ?_
   refine pw_mv (by rfl) rfl rfl ?_
   simp only [Act.put, pu]
   refine pw_as (by rfl) rfl rfl ?_
   simp only [Act.put, pu]
   refine pw_nil ?_
   obtain h1 | ⟨rfl, rB, hbt⟩ := (HB.out.below sb).at'
   ·exact absurd h1 (by omega)
   have hbt' := hbt k hlt
   clear hbt
   (repeat ((fail_if_success with_reducible refine rg ?_); go_step))
   have cb := below_self sb
   refine wp_region_pw ?_
   refine pw_mv (by rfl) rfl rfl ?_
   simp only [Act.put, pu]
   refine pw_mv (by rfl) rfl rfl ?_
   simp only [Act.put, pu]
   refine pw_mv (by rfl) rfl rfl ?_
   simp only [Act.put, pu]
   refine pw_mv (by rfl) rfl rfl ?_
   simp only [Act.put, pu]
   refine pw_value (by rfl) (.pointer (some ⟨gb, ob + k * 4, none⟩)) ((exec_index_s 22 _ _ rfl gb ob (n) (ca) rfl (k) rfl (hlt) _ Try.underlying22 4 size_nat4)) ?_
   simp only [Act.put, pu]
   refine pw_loadm (by rfl) 32 _ rfl _ (ob + k * 4) rfl rB (natC (X k)) hbt' _ Try.underlying32 rfl size_nat ?_
   simp only [Act.put, pu]
   refine pw_callB (by rfl) 11 _ _ rfl Try.func11 (by kernel_rfl) #[.pointer (some ⟨g, 0, none⟩), vg, .agg (natC (X k))] rfl _ (hev _ sb (hgo.below cb)) ?_
   intro z8006 k
   simp only [Act.put, pu]
   replace cb := cb.trans (k.below _ cb.size (by simp <;> omega))
   replace sb := sb.trans (k.below w.heap.size sb.size (by simp <;> omega))
   clear k
   refine pw_new (by rfl) 32 rfl _ zero_nat ?_
   intro g11 z8007 n0 r11 k
   simp only [Act.put, pu]
   have bcbx11 := Nat.le_trans cb.size n0
   have b11 := Nat.le_trans sb.size n0
   clear n0
   replace cb := cb.trans (k.below _ cb.size (by simp <;> omega))
   replace sb := sb.trans (k.below w.heap.size sb.size (by simp <;> omega))
   clear k
   refine pw_put (by rfl) 32 _ _ rfl _ rfl r11 (natC T.val) rfl (by exact size_nat) (by simp only [natC_size]) (natC_one _) ?_
   clear r11
   intro z8008 r11 k
   simp only [Act.put]
   replace cb := cb.trans (k.below _ cb.size (by simp <;> omega))
   replace sb := sb.trans (k.below w.heap.size sb.size (by simp <;> omega))
   clear k
   refine pw_nil ?_
   replace hf := hf.below cb
   replace hgo := hgo.below cb
   clear cb
   by_cases hz0 : T = 0
   ·have hd : decide (T.val % 2 ^ 256 = 0 % 2 ^ 256) = true := by rw [hz0]; rfl
    have HZ : Hid (∃ k, k < n ∧ pev (fi (X k)) (tGo (fun i => (fi (X i) : Fin Q)) k) = 0) := ⟨k, hlt, hT.trans hz0⟩
    clear hT hz0
    (repeat ((fail_if_success with_reducible refine rg ?_); go_step))
    refine wp_region_pw ?_
    refine pw_loadm (by rfl) 32 _ rfl _ 0 rfl r11.r _ (part_all _) _ Try.underlying32 rfl size_nat ?_
    simp only [Act.put, pu]
    refine pw_value (by rfl) (.agg (natC 0)) (exec_build0 _ rfl _ built_nat) ?_
    simp only [Act.put, pu]
    refine pw_value (by rfl) (.bool true) (fun w' => (exec_eql_nat _ _ _ rfl T.val 0 rfl rfl w').trans (by rw [hd])) ?_
    simp only [Act.put, pu]
    refine pw_nil ?_
    (repeat ((fail_if_success with_reducible refine rg ?_); go_step))
    refine wp_region_pw ?_
    refine pw_value (by rfl) (.slice none 0 0) ((fun _ => rfl)) ?_
    simp only [Act.put, pu]
    refine pw_value (by rfl) (.int .i64 1) (fun _ => rfl) ?_
    simp only [Act.put, pu]
    refine pw_nil ?_
    go_wp2
    go_ret2
    exact ⟨_, _, rfl, .inr ⟨rfl, rfl, HZ.out⟩, sb⟩
   ·have hd : decide (T.val % 2 ^ 256 = 0 % 2 ^ 256) = false := by
     rw [Nat.mod_eq_of_lt het]
     exact decide_eq_false fun e => hz0 ((val_z T).1 e)
    have HNZ' : Hid (∀ j, j < k + 1 → pev (fi (X j)) (tGo (fun i => (fi (X i) : Fin Q)) j) ≠ 0) := fun j hj => by
     by_cases e : j = k
     ·rw [e, hT]; exact hz0
     ·exact HNZ.out j (by omega)
    clear HNZ hz0
    obtain ⟨U, hU⟩ : ∃ U, pev (fi (X k)) (tTh ivF (fun i => (fi (X i) : Fin Q)) (fun i => (fi (Y i) : Fin Q)) k) = U := ⟨_, rfl⟩
    have hev2 := fun w' (hb : Below w.heap.size w w') (hf : PlAt w' vf (tTh ivF (fun i => (fi (X i) : Fin Q)) (fun i => (fi (Y i) : Fin Q)) k)) => evalQ vf _ (X k) (HXl.out k hlt) q (h.below hb) (hf.arg (by omega))
    rw [hU] at hev2
    obtain ⟨MI, hMI⟩ : ∃ MI, sbN (Y k) U.val Q = MI := ⟨_, rfl⟩
    have hMl : MI < 2 ^ 256 := by rw [← hMI]; exact Nat.lt_trans (Nat.mod_lt _ q.pos) q.m
    have hsu := fun w' (hb : Below w.heap.size w w') => fSub_ok (Y k) U.val g gr gf P Q G w' (HYl.out k hlt) (HQ.out U) q (h.below hb)
    rw [hMI] at hsu
    obtain ⟨IV, hIV⟩ : ∃ IV, invZ T.val Q = IV := ⟨_, rfl⟩
    have hIl : IV < 2 ^ 256 := by rw [← hIV]; exact Nat.lt_trans (inv_lt _ _ q.pr) q.m
    have hiv := fun w' (hb : Below w.heap.size w w') => fInv_ok T.val g gr gf P Q G w' het q (h.below hb)
    rw [hIV] at hiv
    obtain ⟨CC, hCC⟩ : ∃ CC, MI * IV % Q = CC := ⟨_, rfl⟩
    have hCl : CC < 2 ^ 256 := by rw [← hCC]; exact Nat.lt_trans (Nat.mod_lt _ q.pos) q.m
    have hmu := fun w' (hb : Below w.heap.size w w') => fMul_ok MI IV g gr gf P Q G w' hMl hIl q (h.below hb)
    rw [hCC] at hmu
    have hcf : (fi CC : Fin Q) = ((fi (Y k) - pev (fi (X k)) (tTh ivF (fun i => (fi (X i) : Fin Q)) (fun i => (fi (Y i) : Fin Q)) k)) * ivF (pev (fi (X k)) (tGo (fun i => (fi (X i) : Fin Q)) k))) := by
     rw [hU, hT]
     unfold ivF
     rw [hIV, ← hCC, fi_mod, fi_mul, ← hMI]
     unfold sbN
     rw [fi_sub, fi_of]
    obtain ⟨SX, hSX⟩ : ∃ SX, sbN 0 (X k) Q = SX := ⟨_, rfl⟩
    have hSl : SX < 2 ^ 256 := by rw [← hSX]; exact Nat.lt_trans (Nat.mod_lt _ q.pos) q.m
    have hs0 := fun w' (hb : Below w.heap.size w w') => fSub_ok 0 (X k) g gr gf P Q G w' (by decide) (HXl.out k hlt) q (h.below hb)
    rw [hSX] at hs0
    have hsf : (fi SX : Fin Q) = 0 - fi (X k) := by
     rw [← hSX]
     unfold sbN
     rw [fi_sub]
     rfl
    have hgl := tGo_length (fun i => (fi (X i) : Fin Q)) k
    have hpm := fun w' g2 (hb : Below w.heap.size w w') (hg : PlA w' vg (tGo (fun i => (fi (X i) : Fin Q)) k)) (r : Row w' g2 (natC CC) 32) => mulQ vg (.slice (some ⟨g2, 0, none⟩) 1 1) _ [fi CC] q (h.below hb) hg (lit1_pl r hCl)
    have hpa := fun w' (v2 : Value) (hb : Below w.heap.size w w') (hf : PlAt w' vf (tTh ivF (fun i => (fi (X i) : Fin Q)) (fun i => (fi (Y i) : Fin Q)) k)) (h2 : PlAt w' v2 (pmul (tGo (fun i => (fi (X i) : Fin Q)) k) [fi CC])) => addQ vf v2 _ _ q (h.below hb) (hf.arg (by omega)) (h2.arg (by have := pmul_length (tGo (fun i => (fi (X i) : Fin Q)) k) [(fi CC : Fin Q)]; simp only [List.length_cons, List.length_nil] at this; omega))
    have hpg := fun w' g2 (hb : Below w.heap.size w w') (hg : PlA w' vg (tGo (fun i => (fi (X i) : Fin Q)) k)) (r : Row w' g2 (natC SX ++ natC 1) 32) => mulQ vg (.slice (some ⟨g2, 0, none⟩) 2 2) _ [fi SX, fi 1] q (h.below hb) hg (lit2_pl r hSl (by decide))
    have hthr : psum (tTh ivF (fun i => (fi (X i) : Fin Q)) (fun i => (fi (Y i) : Fin Q)) k) (pmul (tGo (fun i => (fi (X i) : Fin Q)) k) [fi CC]) = tTh ivF (fun i => (fi (X i) : Fin Q)) (fun i => (fi (Y i) : Fin Q)) (k + 1) := by rw [hcf]; rfl
    have hgor : pmul (tGo (fun i => (fi (X i) : Fin Q)) k) [fi SX, fi 1] = tGo (fun i => (fi (X i) : Fin Q)) (k + 1) := by rw [hsf]; rfl
    rw [hthr] at hpa
    rw [hgor] at hpg
    have hgl2 := tGo_length (fun i => (fi (X i) : Fin Q)) (k + 1)
    clear hthr hgor hcf hsf hMI hIV hCC hSX hT hU hev
    obtain h1 | ⟨rfl, rE, het2⟩ := (HE.out.below sb).at'
    ·exact absurd h1 (by omega)
    clear rE rB
    have het2' := het2 k hlt
    clear het2
    (repeat ((fail_if_success with_reducible refine rg ?_); go_step))
    refine wp_region_pw ?_
    refine pw_loadm (by rfl) 32 _ rfl _ 0 rfl r11.r _ (part_all _) _ Try.underlying32 rfl size_nat ?_
    simp only [Act.put, pu]
    refine pw_value (by rfl) (.agg (natC 0)) (exec_build0 _ rfl _ built_nat) ?_
    simp only [Act.put, pu]
    refine pw_value (by rfl) (.bool false) (fun w' => (exec_eql_nat _ _ _ rfl T.val 0 rfl rfl w').trans (by rw [hd])) ?_
    simp only [Act.put, pu]
    refine pw_nil ?_
    obtain h1 | ⟨_, rB, _⟩ := (HB.out.below sb).at'
    ·exact absurd h1 (by omega)
    obtain h1 | ⟨_, rE, _⟩ := (HE.out.below sb).at'
    ·exact absurd h1 (by omega)
    (repeat ((fail_if_success with_reducible refine rg ?_); go_step))
    apply wp_region_mix (by kernel_rfl) [] [_, _, _, _, _, _, _, _, _, _, _, _, _, _, _] trivial List.nodup_nil
    ·intro p
     refine mx_move rfl rfl ?_
     simp only [Act.put, pu]
     refine mx_move rfl rfl ?_
     simp only [Act.put, pu]
     refine mx_move rfl rfl ?_
     simp only [Act.put, pu]
     refine mx_val (.pointer (some ⟨ge, oe + k * 4, none⟩)) ((exec_index_s 22 _ _ rfl ge oe (n) (ce) rfl (k) rfl (hlt) _ Try.underlying22 4 size_nat4)) ?_
     simp only [Act.put, pu]
     refine mx_loadmR 32 _ rfl _ (oe + k * 4) rfl rE (by simp <;> omega) (natC (Y k)) het2' _ Try.underlying32 rfl size_nat ?_
     simp only [Act.put, pu]
     refine mx_move rfl rfl ?_
     simp only [Act.put, pu]
     refine mx_move rfl rfl ?_
     simp only [Act.put, pu]
     refine mx_move rfl rfl ?_
     simp only [Act.put, pu]
     refine mx_move rfl rfl ?_
     simp only [Act.put, pu]
     refine mx_val (.pointer (some ⟨gb, ob + k * 4, none⟩)) ((exec_index_s 22 _ _ rfl gb ob (n) (ca) rfl (k) rfl (hlt) _ Try.underlying22 4 size_nat4)) ?_
     simp only [Act.put, pu]
     refine mx_loadmR 32 _ rfl _ (ob + k * 4) rfl rB (by simp <;> omega) (natC (X k)) hbt' _ Try.underlying32 rfl size_nat ?_
     simp only [Act.put, pu]
     refine mx_callK 11 _ _ rfl Try.func11 (by kernel_rfl) #[.pointer (some ⟨g, 0, none⟩), vf, .agg (natC (X k))] rfl _ (fun w' hk => hev2 w' (sb.trans (hk.below w.heap.size sb.size (by simp <;> omega))) (hf.below hk.nil)) ?_
     simp only [Act.put, pu]
     refine mx_callK 29 _ _ rfl Try.func29 (by kernel_rfl) #[.pointer (some ⟨g, 0, none⟩), .agg (natC (Y k)), .agg (natC U.val)] rfl _ (fun w' hk => hsu w' (sb.trans (hk.below w.heap.size sb.size (by simp <;> omega)))) ?_
     simp only [Act.put, pu]
     refine mx_new 32 rfl _ zero_nat ?_
     simp only [Act.put, pu]
     refine mx_put 27 32 _ _ rfl rfl rfl (natC MI) rfl (by exact size_nat) (by simp only [natC_size]) (natC_one _) ?_
     simp only [Act.put]
     refine mx_end ?_
     intro w2 hkw hrw hnew hdis
     have r12 : Row w2 (p 13) (natC MI) 32 := hrw 27 (32, natC MI) rfl
     have hp13 := Nat.le_trans sb.size (hnew 13 rfl)
     have d11x12 := Nat.lt_of_lt_of_le r11.lt (hnew 13 rfl)
     replace r11 := hkw.row r11 (by simp)
     replace hf := hf.below hkw.nil
     replace hgo := hgo.below hkw.nil
     replace sb := sb.trans (hkw.below w.heap.size sb.size (by simp))
     clear hkw hrw hnew hdis rB rE
     generalize p 13 = g12 at *
     (repeat ((fail_if_success with_reducible refine rg ?_); go_step))
     refine wp_region_ewb (by kernel_rfl) [] [(0, false), (1, false), (2, false), (3, false), (4, false), (5, false), (6, false), (7, false), (8, false), (9, false), (10, true), (11, true), (12, true), (13, false)] ?_ (by kernel_rfl)
     have or11 := r11
     have or12 := r12
     have cb := below_self sb
     have osb := sb
     refine ew_mv (by rfl) rfl rfl ?_
     simp only [Act.put, pu]
     refine ew_mv (by rfl) rfl rfl ?_
     simp only [Act.put, pu]
     refine ew_mv (by rfl) rfl rfl ?_
     simp only [Act.put, pu]
     refine ew_mv (by rfl) rfl rfl ?_
     simp only [Act.put, pu]
     refine ew_mv (by rfl) rfl rfl ?_
     simp only [Act.put, pu]
     refine ew_loadm (by rfl) 32 _ rfl _ 0 rfl (fun _ hb => (or12.belowAll hb).r) _ (part_all _) _ Try.underlying32 rfl size_nat ?_
     simp only [Act.put, pu]
     refine ew_mv (by rfl) rfl rfl ?_
     simp only [Act.put, pu]
     refine ew_loadm (by rfl) 32 _ rfl _ 0 rfl (fun _ hb => (or11.belowAll hb).r) _ (part_all _) _ Try.underlying32 rfl size_nat ?_
     simp only [Act.put, pu]
     refine ew_call (by rfl) 30 _ _ rfl Try.func30 (by kernel_rfl) #[.pointer (some ⟨g, 0, none⟩), .agg (natC T.val)] rfl _ (fun w' hb => hiv w' (below_on osb (Nat.le_refl _) hb)) ?_
     simp only [Act.put, pu]
     refine ew_call (by rfl) 27 _ _ rfl Try.func27 (by kernel_rfl) #[.pointer (some ⟨g, 0, none⟩), .agg (natC MI), .agg (natC IV)] rfl _ (fun w' hb => hmu w' (below_on osb (Nat.le_refl _) hb)) ?_
     simp only [Act.put, pu]
     refine ew_litr (by rfl) 22 32 1 _ rfl (natC CC) ie _ Try.underlying22 hie hz hs1 hs2 [(0, .agg (natC CC))] rfl (hl1 CC) ?_
     intro wa10 hqb gC wb10 n0 rC hb
     refine ⟨fun _ => below_on (below_on cb (Nat.le_refl _) hqb) (Nat.le_refl _) hb, ?_⟩
     simp only [Act.put, pu]
     replace hf := hf.below hqb
     replace hgo := hgo.below hqb
     replace r11 := r11.belowAll hqb
     replace r12 := r12.belowAll hqb
     replace sb := below_on sb (Nat.le_refl _) hqb
     replace cb := below_on cb (Nat.le_refl _) hqb
     have d11xC := Nat.lt_of_lt_of_le r11.lt n0
     have d12xC := Nat.lt_of_lt_of_le r12.lt n0
     have bC := Nat.le_trans sb.size n0
     replace hf := hf.below hb
     replace hgo := hgo.below hb
     replace r11 := r11.belowAll hb
     replace r12 := r12.belowAll hb
     replace sb := below_on sb (Nat.le_refl _) hb
     replace cb := below_on cb (Nat.le_refl _) hb
     clear hqb hb n0
     refine ew_callE (by rfl) 14 _ _ rfl Try.func14 (by kernel_rfl) #[.pointer (some ⟨g, 0, none⟩), vg, .slice (some ⟨gC, 0, none⟩) 1 1] rfl ?_
     intro wa11 hqb
     replace hf := hf.below hqb
     replace hgo := hgo.below hqb
     replace r11 := r11.belowAll hqb
     replace r12 := r12.belowAll hqb
     replace rC := rC.belowAll hqb
     replace sb := below_on sb (Nat.le_refl _) hqb
     replace cb := below_on cb (Nat.le_refl _) hqb
     clear hqb
     refine (hpm _ gC sb hgo rC).mono ?_
     rintro _ wb11 ⟨vm, rfl, hm, hb⟩
     refine ⟨_, rfl, fun _ => below_on cb (Nat.le_refl _) hb, ?_⟩
     simp only [Act.put, pu]
     replace hf := hf.below hb
     replace hgo := hgo.below hb
     replace r11 := r11.belowAll hb
     replace r12 := r12.belowAll hb
     replace rC := rC.belowAll hb
     replace sb := below_on sb (Nat.le_refl _) hb
     replace cb := below_on cb (Nat.le_refl _) hb
     clear hb
     refine ew_callE (by rfl) 13 _ _ rfl Try.func13 (by kernel_rfl) #[.pointer (some ⟨g, 0, none⟩), vf, vm] rfl ?_
     intro wa12 hqb
     replace hf := hf.below hqb
     replace hgo := hgo.below hqb
     replace r11 := r11.belowAll hqb
     replace r12 := r12.belowAll hqb
     replace rC := rC.belowAll hqb
     replace hm := hm.below hqb
     replace sb := below_on sb (Nat.le_refl _) hqb
     replace cb := below_on cb (Nat.le_refl _) hqb
     clear hqb
     refine (hpa _ vm sb hf hm).mono ?_
     rintro _ wb12 ⟨vn, rfl, hn2, hb⟩
     refine ⟨_, rfl, fun _ => below_on cb (Nat.le_refl _) hb, ?_⟩
     simp only [Act.put, pu]
     replace hf := hf.below hb
     replace hgo := hgo.below hb
     replace r11 := r11.belowAll hb
     replace r12 := r12.belowAll hb
     replace rC := rC.belowAll hb
     replace hm := hm.below hb
     replace sb := below_on sb (Nat.le_refl _) hb
     replace cb := below_on cb (Nat.le_refl _) hb
     clear hb
     refine ew_as (by rfl) rfl rfl ?_
     simp only [Act.put, pu]
     refine ew_nil ?_
     intro wz hqb
     replace hf := hf.below hqb
     replace hgo := hgo.below hqb
     replace r11 := r11.belowAll hqb
     replace r12 := r12.belowAll hqb
     replace rC := rC.belowAll hqb
     replace hm := hm.below hqb
     replace hn2 := hn2.below hqb
     replace sb := below_on sb (Nat.le_refl _) hqb
     clear hqb cb osb or11 or12
     obtain h1 | ⟨_, rB, _⟩ := (HB.out.below sb).at'
     ·exact absurd h1 (by omega)
     (repeat ((fail_if_success with_reducible refine rg ?_); go_step))
     refine wp_region_pw ?_
     refine pw_mv (by rfl) rfl rfl ?_
     simp only [Act.put, pu]
     refine pw_mv (by rfl) rfl rfl ?_
     simp only [Act.put, pu]
     refine pw_mv (by rfl) rfl rfl ?_
     simp only [Act.put, pu]
     refine pw_value (by rfl) (.agg (natC 0)) (exec_build0 _ rfl _ built_nat) ?_
     simp only [Act.put, pu]
     refine pw_mv (by rfl) rfl rfl ?_
     simp only [Act.put, pu]
     refine pw_mv (by rfl) rfl rfl ?_
     simp only [Act.put, pu]
     refine pw_value (by rfl) (.pointer (some ⟨gb, ob + k * 4, none⟩)) ((exec_index_s 22 _ _ rfl gb ob (n) (ca) rfl (k) rfl (hlt) _ Try.underlying22 4 size_nat4)) ?_
     simp only [Act.put, pu]
     refine pw_loadm (by rfl) 32 _ rfl _ (ob + k * 4) rfl rB (natC (X k)) hbt' _ Try.underlying32 rfl size_nat ?_
     simp only [Act.put, pu]
     refine pw_callB (by rfl) 29 _ _ rfl Try.func29 (by kernel_rfl) #[.pointer (some ⟨g, 0, none⟩), .agg (natC 0), .agg (natC (X k))] rfl _ (hs0 _ sb) ?_
     intro z13008 k
     simp only [Act.put, pu]
     replace hgo := hgo.below k.nil
     replace hn2 := hn2.below k.nil
     replace sb := sb.trans (k.below w.heap.size sb.size (by simp <;> omega))
     clear k
     refine pw_value (by rfl) (.agg (natC 1)) (exec_buildv _ [(0, .const (.int .u64 1))] rfl [(0, .int .u64 1)] rfl (natC 1) built_one) ?_
     simp only [Act.put, pu]
     refine pw_litr (by rfl) 22 32 2 _ rfl (natC SX ++ natC 1) ie _ Try.underlying22 hie hz hs3 hs4 [(0, .agg (natC SX)), (1, .agg (natC 1))] rfl (hl2 SX 1) ?_
     intro gL z13010 n0 rL k
     simp only [Act.put, pu]
     have bL := Nat.le_trans sb.size n0
     clear n0
     replace hgo := hgo.below k.nil
     replace hn2 := hn2.below k.nil
     replace sb := sb.trans (k.below w.heap.size sb.size (by simp <;> omega))
     clear k
     refine pw_callE (by rfl) 14 _ _ rfl Try.func14 (by kernel_rfl) #[.pointer (some ⟨g, 0, none⟩), vg, .slice (some ⟨gL, 0, none⟩) 2 2] rfl (hpg _ gL sb hgo rL) ?_
     rintro _ z13011 ⟨vh, rfl, hh, hb⟩
     refine ⟨_, rfl, ?_⟩
     simp only [Act.put, pu]
     have k := Kept.ofBelow hb
     clear hb
     replace hgo := hgo.below k.nil
     replace hn2 := hn2.below k.nil
     replace rL := k.row rL (by simp <;> omega)
     replace sb := sb.trans (k.below w.heap.size sb.size (by simp <;> omega))
     clear k
     refine pw_as (by rfl) rfl rfl ?_
     simp only [Act.put, pu]
     refine pw_nil ?_
     (repeat ((fail_if_success with_reducible refine rg ?_); go_step))
     refine wp_region_pw ?_
     refine pw_value (by rfl) (.int .i64 ((k + 1 : Nat) : Int)) (exec_add_in _ _ _ _ rfl k 1 rfl rfl (by omega)) ?_
     simp only [Act.put, pu]
     refine pw_mv (by rfl) rfl rfl ?_
     simp only [Act.put, pu]
     refine pw_nil ?_
     go_wp2
     go_roundg x
     case measure => omega
     case rel => exact ⟨k + 1, _, _, by omega, rfl, rfl, rfl, hn2, hh.arg (by omega), HNZ'.out, sb⟩
    ·kernel_rfl
end Go.Proofs.Ythnpeebnmommbaa
