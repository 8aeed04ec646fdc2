import Derived.Test.YtgdalihjpemjiaaGreatCO
import Derived.Test.YtgdalihjpemjiaaGreatPZ
set_option maxRecDepth 100000
set_option maxHeartbeats 2000000
namespace Go.Proofs.YtgdalihjpemjiaaGreat
open Go.RowKit
set_option linter.unusedVariables false
theorem rmay14_any (ab : Option Addr) (n c P Q G : Nat) (C : Nat → Nat) (gb ob : Nat) (bcs : Array Value) (tb : TypeId) (w : World) (hn : n < 4611686018427387904) (h2 : 2 ≤ P) (hP : P < 4611686018427387904) (h0 : 0 < Q) (hQ : Q < 4611686018427387904) (hna : NatsAt w ab n C gb ob bcs tb) :
  Calls Tryz.prog 15 #[.agg (smC (P : Nat) (Q : Nat) (G : Nat)), .slice ab n c] w fun e w' => e = .returned (.bool (cMay P Q C n)) ∧ Below w.heap.size w w' := by
 have hin := fun k w' (hk : k < n) => rin9_any (C k) P Q ((G : Nat) : Int) w' (hna.lt k hk) h2 hP h0 (by omega)
 have HB : Hid (NatsAt w ab n C gb ob bcs tb) := hna
 obtain ⟨B, hB⟩ : ∃ B : Nat → Bool, ∀ k, memN P Q (C k) = B k := ⟨_, fun _ => rfl⟩
 have HM : Hid (cMay P Q C n = (decide (1 ≤ n) && decide (n ≤ 7) && !anB (fun k => !B k) n)) := (show cMay P Q C n = _ by
  unfold cMay
  simp only [hB])
 simp only [hB] at hin
 clear hna hB
 go_enter Tryz.func15, Tryz.ntmps15
 iterate 2 go_step
 refine rp ?_
 refine pw_boxr (by rfl) 27 _ rfl (smC (P : Nat) (Q : Nat) (G : Nat)) rfl ?_
 intro g2 z0 n0 r2 k
 simp only [pv]
 clear n0
 have sb := k_b k
 clear k
 refine p_v (.bool false) (fun _ => rfl) ?_
 simp only [pv]
 refine pw_nil ?_
 iterate 4 go_step
 refine rp ?_
 refine p_v (.int .i64 0) (fun _ => rfl) ?_
 simp only [pv]
 refine pw_nil ?_
 go_wp2_with fail
 go_loopg [5] n (fun x s5 wr => ∃ k : Nat, k + x = n ∧ s5 = .int .i64 k ∧ anB (fun k => !B k) k = false ∧ Row wr g2 (smC (P : Nat) (Q : Nat) (G : Nat)) 27 ∧ Below w.heap.size w wr)
 case atStart => exact ⟨0, by omega, rfl, rfl, r2, sb⟩
 case round =>
  clear r2 sb
  obtain ⟨k, hk, rfl, han, r2, sb⟩ := hrel
  cases gk with
  | zero =>
   obtain rfl : k = n := by omega
   clear hk hin
   iterate 2 go_step
   refine rp ?_
   refine p_m ?_
   refine p_m ?_
   simp only [pv]
   refine p_v (.int .i64 k) (exec_len_s 22 _ rfl (ab) (k) (c) rfl sl_natsX) ?_
   simp only [pv]
   refine p_v (.bool false) (exec_lt_b _ _ _ _ rfl k k rfl rfl false (decide_eq_false (Int.lt_irrefl _))) ?_
   simp only [pv]
   refine pw_nil ?_
   have hM := HM.out
   rw [han] at hM
   by_cases h1 : 1 ≤ k
   ·by_cases h7 : k ≤ 7
    ·have HF : Hid (cMay P Q C k = true) := by rw [hM, decide_eq_true h1, decide_eq_true h7]; rfl
     clear hM HM
     iterate 7 go_step
     refine rp ?_
     refine p_m ?_
     simp only [pv]
     refine p_v (.int .i64 k) (exec_len_s 22 _ rfl (ab) (k) (c) rfl sl_natsX) ?_
     simp only [pv]
     refine p_v (.bool true) (exec_geq_i _ _ _ _ rfl k 1 rfl rfl true (decide_eq_true (by omega))) ?_
     refine p_m ?_
     refine p_m ?_
     simp only [pv]
     refine p_v (.int .i64 k) (exec_len_s 22 _ rfl (ab) (k) (c) rfl sl_natsX) ?_
     simp only [pv]
     refine p_v (.bool true) (exec_leq_i _ _ _ _ rfl k 7 rfl rfl true (decide_eq_true (by omega))) ?_
     simp only [pv]
     refine pw_pick (by rfl) true (v := .bool true) rfl rfl rfl ?_
     refine p_a ?_
     simp only [pv]
     refine pw_nil ?_
     go_wp2
     go_ret
     exact ⟨by rw [HF.out]; rfl, sb⟩
    ·have HF : Hid (cMay P Q C k = false) := by rw [hM, decide_eq_false h7, Bool.and_false]; rfl
     clear hM HM
     iterate 7 go_step
     refine rp ?_
     refine p_m ?_
     simp only [pv]
     refine p_v (.int .i64 k) (exec_len_s 22 _ rfl (ab) (k) (c) rfl sl_natsX) ?_
     simp only [pv]
     refine p_v (.bool true) (exec_geq_i _ _ _ _ rfl k 1 rfl rfl true (decide_eq_true (by omega))) ?_
     refine p_m ?_
     refine p_m ?_
     simp only [pv]
     refine p_v (.int .i64 k) (exec_len_s 22 _ rfl (ab) (k) (c) rfl sl_natsX) ?_
     simp only [pv]
     refine p_v (.bool false) (exec_leq_i _ _ _ _ rfl k 7 rfl rfl false (decide_eq_false (by omega))) ?_
     simp only [pv]
     refine pw_pick (by rfl) true (v := .bool false) rfl rfl rfl ?_
     refine p_a ?_
     simp only [pv]
     refine pw_nil ?_
     go_wp2
     go_ret
     exact ⟨by rw [HF.out]; rfl, sb⟩
   ·have HF : Hid (cMay P Q C k = false) := by rw [hM, decide_eq_false h1]; rfl
    clear hM HM
    iterate 7 go_step
    refine rp ?_
    refine p_m ?_
    simp only [pv]
    refine p_v (.int .i64 k) (exec_len_s 22 _ rfl (ab) (k) (c) rfl sl_natsX) ?_
    simp only [pv]
    refine p_v (.bool false) (exec_geq_i _ _ _ _ rfl k 1 rfl rfl false (decide_eq_false (by omega))) ?_
    refine p_m ?_
    simp only [pv]
    refine p_s ?_
    simp only [pv]
    refine p_s ?_
    simp only [pv]
    refine p_s ?_
    simp only [pv]
    refine pw_pick (by rfl) false (v := .bool false) rfl rfl rfl ?_
    refine p_a ?_
    simp only [pv]
    refine pw_nil ?_
    go_wp2
    go_ret
    exact ⟨by rw [HF.out]; rfl, sb⟩
  | succ x =>
   have hlt : k < n := by omega
   have hik := fun w' => hin k w' hlt
   iterate 2 go_step
   refine rp ?_
   refine p_m ?_
   refine p_m ?_
   simp only [pv]
   refine p_v (.int .i64 n) (exec_len_s 22 _ rfl (ab) (n) (c) rfl sl_natsX) ?_
   simp only [pv]
   refine p_v (.bool true) (exec_lt_b _ _ _ _ rfl k n rfl rfl true (decide_eq_true (by omega))) ?_
   simp only [pv]
   refine pw_nil ?_
   obtain h0 | ⟨rfl, rB, hbt⟩ := (HB.out.below sb).at'
   ·exact absurd h0 (by omega)
   have hbt' := hbt k hlt
   clear hbt
   cases hBk : B k with
   | true =>
    have hnx : anB (fun k => !B k) (k + 1) = false := by
     show (anB _ k || !B k) = false
     rw [han, hBk]; rfl
    rw [hBk] at hik
    iterate 9 go_step
    refine wp_region_qw (by kernel_rfl) (by kernel_rfl) ?_
    refine qw_loadm (by rfl) 27 _ rfl _ (0) rfl r2 (smC (P : Nat) (Q : Nat) (G : Nat)) (part_all _) _ Tryz.underlying27 rfl size_sm ?_
    refine q_m ?_
    refine q_m ?_
    simp only [pv]
    refine q_v (.pointer (some ⟨gb, ob + k * 4, none⟩)) ((exec_index_s 22 _ _ rfl gb ob (n) (c) rfl (k) rfl (hlt) _ Tryz.underlying22 4 size_nat4)) ?_
    simp only [pv]
    refine qw_loadmR (by rfl) 40 _ rfl _ (ob + k * 4) rfl rB (natC (C k)) hbt' _ Tryz.underlying40 rfl size_nat ?_
    simp only [pv]
    refine qw_call (by rfl) 29 _ _ rfl Tryz.func29 (by kernel_rfl) #[.agg (smC (P : Nat) (Q : Nat) (G : Nat)), .agg (natC (C k))] rfl _ hik ?_
    simp only [pv]
    refine q_v (.bool false) (exec_not _ _ rfl true rfl) ?_
    simp only [pv]
    refine qw_nil ?_
    intro w6 hqb
    replace r2 := r2.belowAll hqb
    replace sb := b_o sb hqb
    clear hqb rB hbt'
    iterate 6 go_step
    refine rp ?_
    refine p_m ?_
    simp only [pv]
    refine p_v (.int .i64 ((k + 1 : Nat) : Int)) (exec_add_in _ _ _ _ rfl k 1 rfl rfl (by omega)) ?_
    refine p_a ?_
    simp only [pv]
    refine pw_nil ?_
    go_wp2
    go_roundg x
    case measure => omega
    case rel => exact ⟨k + 1, by omega, rfl, hnx, r2, sb⟩
   | false =>
    have HF : Hid (cMay P Q C n = false) := (show cMay P Q C n = false by
     rw [HM.out, (anB_iff _ n).2 ⟨k, hlt, by rw [hBk]; rfl⟩, Bool.not_true, Bool.and_false])
    rw [hBk] at hik
    iterate 9 go_step
    refine wp_region_qw (by kernel_rfl) (by kernel_rfl) ?_
    refine qw_loadm (by rfl) 27 _ rfl _ (0) rfl r2 (smC (P : Nat) (Q : Nat) (G : Nat)) (part_all _) _ Tryz.underlying27 rfl size_sm ?_
    refine q_m ?_
    refine q_m ?_
    simp only [pv]
    refine q_v (.pointer (some ⟨gb, ob + k * 4, none⟩)) ((exec_index_s 22 _ _ rfl gb ob (n) (c) rfl (k) rfl (hlt) _ Tryz.underlying22 4 size_nat4)) ?_
    simp only [pv]
    refine qw_loadmR (by rfl) 40 _ rfl _ (ob + k * 4) rfl rB (natC (C k)) hbt' _ Tryz.underlying40 rfl size_nat ?_
    simp only [pv]
    refine qw_call (by rfl) 29 _ _ rfl Tryz.func29 (by kernel_rfl) #[.agg (smC (P : Nat) (Q : Nat) (G : Nat)), .agg (natC (C k))] rfl _ hik ?_
    simp only [pv]
    refine q_v (.bool true) (exec_not _ _ rfl false rfl) ?_
    simp only [pv]
    refine qw_nil ?_
    intro w6 hqb
    replace sb := b_o sb hqb
    clear hqb rB hbt'
    iterate 4 go_step
    refine rp ?_
    refine p_v (.bool false) (fun _ => rfl) ?_
    simp only [pv]
    refine pw_nil ?_
    go_wp2
    go_ret
    exact ⟨by rw [HF.out]; rfl, sb⟩
def rAt (P : Nat) (C : Nat → Nat) (i k : Nat) : Nat := prd (fun j => C j ^ (i ^ j)) k % P
theorem rat14_any (ab : Option Addr) (n c P Q G : Nat) (C : Nat → Nat) (gb ob : Nat) (bcs : Array Value) (tb : TypeId) (i : Nat) (w : World) (hn : n ≤ 7) (hi7 : i ≤ 7) (h2 : 2 ≤ P) (hP : P < 4611686018427387904) (h0 : 0 < Q) (hQ : Q < 4611686018427387904) (hna : NatsAt w ab n C gb ob bcs tb) :
  Calls Tryz.prog 18 #[.agg (smC (P : Nat) (Q : Nat) (G : Nat)), .slice ab n c, .int .i64 i] w fun e w' => e = .returned (.int .i64 (prd (fun j => C j ^ (i ^ j)) n % P : Nat)) ∧ Below w.heap.size w w' := by
 show Calls _ _ _ _ fun e w' => e = .returned (.int .i64 ((rAt P C i n : Nat) : Int)) ∧ _
 have hby := fun k w' (hk : k < n) => rby_any (C k) P w' (hna.lt k hk) (by omega) hP
 have hit := fun k w' (hk : k < n) => rint_any ((i ^ k : Nat) : Int) w' (by have := pow7 hi7 (show k ≤ 7 by omega); omega)
 simp only [Int.toNat_natCast] at hit
 have hex := fun k w' (hk : k < n) => rexp9_any (C k % P) (i ^ k) P ((Q : Nat) : Int) ((G : Nat) : Int) w' (Nat.lt_trans (pow7 hi7 (show k ≤ 7 by omega)) (by decide)) (by omega) hP
 have hmu := fun k w' => rmul9_any (rAt P C i k) ((C k % P) ^ (i ^ k) % P) P ((Q : Nat) : Int) ((G : Nat) : Int) w' (by omega) hP
 have h10 : rAt P C i 0 = 1 := prd_0 _ P h2
 have hon : ∀ k, rAt P C i k * ((C k % P) ^ (i ^ k) % P) % P = rAt P C i (k + 1) := fun k => prd_on (fun j => C j ^ (i ^ j)) k P (C k) (i ^ k) rfl
 simp only [hon] at hmu
 have HPW : Hid (∀ k, k < n → i ^ k * i = i ^ (k + 1) ∧ i ^ (k + 1) < 4611686018427387904) := fun k hk => ⟨by rw [Nat.pow_succ], pow7 hi7 (by omega)⟩
 have HB : Hid (NatsAt w ab n C gb ob bcs tb) := hna
 generalize rAt P C i = D at *
 obtain ⟨T, hT⟩ : ∃ T : Nat → Nat, ∀ k, (C k % P) ^ (i ^ k) % P = T k := ⟨_, fun _ => rfl⟩
 obtain ⟨X, hX⟩ : ∃ X : Nat → Nat, ∀ k, C k % P = X k := ⟨_, fun _ => rfl⟩
 obtain ⟨E, hE⟩ : ∃ E : Nat → Nat, ∀ k, i ^ k = E k := ⟨_, fun _ => rfl⟩
 have hE0 : E 0 = 1 := by rw [← hE]; exact Nat.pow_zero i
 simp only [hT] at hmu hex
 simp only [hX] at hby hex
 simp only [hE] at hit hex
 have HE : Hid (∀ k, k < n → E k * i = E (k + 1) ∧ E (k + 1) < 4611686018427387904) := fun k hk => by
  have := HPW.out k hk
  simp only [hE] at this
  exact this
 clear hna hon hT hX hE HPW
 go_enter Tryz.func18, Tryz.ntmps18
 iterate 2 go_step
 refine rp ?_
 refine pw_boxr (by rfl) 27 _ rfl (smC (P : Nat) (Q : Nat) (G : Nat)) rfl ?_
 intro g3 z0 n0 r3 k
 simp only [pv]
 clear n0
 have sb := k_b k
 clear k
 refine p_v (.int .i64 0) (fun _ => rfl) ?_
 simp only [pv]
 refine pw_nil ?_
 iterate 3 go_step
 refine rp ?_
 refine p_v (.int .i64 1) (fun _ => rfl) ?_
 simp only [pv]
 refine p_v (.int .i64 1) (fun _ => rfl) ?_
 simp only [pv]
 refine pw_nil ?_
 iterate 4 go_step
 refine rp ?_
 refine p_v (.int .i64 0) (fun _ => rfl) ?_
 simp only [pv]
 refine pw_nil ?_
 go_wp2_with fail
 go_loopg [7, 8, 9] n (fun x s7 s8 s9 wr => ∃ k : Nat, k + x = n ∧ s9 = .int .i64 k ∧ s7 = .int .i64 (D k : Nat) ∧ s8 = .int .i64 (E k : Nat) ∧ Row wr g3 (smC (P : Nat) (Q : Nat) (G : Nat)) 27 ∧ Below w.heap.size w wr)
 case atStart => exact ⟨0, by omega, rfl, by rw [h10]; rfl, by rw [hE0]; rfl, r3, sb⟩
 case round =>
  clear r3 sb
  obtain ⟨k, hk, rfl, rfl, rfl, r3, sb⟩ := hrel
  cases gk with
  | zero =>
   obtain rfl : k = n := by omega
   clear hk hby hit hex hmu
   iterate 2 go_step
   refine rp ?_
   refine p_m ?_
   refine p_m ?_
   simp only [pv]
   refine p_v (.int .i64 k) (exec_len_s 22 _ rfl (ab) (k) (c) rfl sl_natsX) ?_
   simp only [pv]
   refine p_v (.bool false) (exec_lt_b _ _ _ _ rfl k k rfl rfl false (decide_eq_false (Int.lt_irrefl _))) ?_
   simp only [pv]
   refine pw_nil ?_
   iterate 7 go_step
   refine rp ?_
   refine p_m ?_
   refine p_a ?_
   simp only [pv]
   refine pw_nil ?_
   go_wp2
   go_ret
   exact ⟨rfl, sb⟩
  | succ x =>
   have hlt : k < n := by omega
   have hbk := fun w' => hby k w' hlt
   have hik := fun w' => hit k w' hlt
   have hxk := fun w' => hex k w' hlt
   have hmk := hmu k
   obtain ⟨hEk, hEl⟩ := HE.out k hlt
   clear hby hit hex hmu
   iterate 2 go_step
   refine rp ?_
   refine p_m ?_
   refine p_m ?_
   simp only [pv]
   refine p_v (.int .i64 n) (exec_len_s 22 _ rfl (ab) (n) (c) rfl sl_natsX) ?_
   simp only [pv]
   refine p_v (.bool true) (exec_lt_b _ _ _ _ rfl k n rfl rfl true (decide_eq_true (by omega))) ?_
   simp only [pv]
   refine pw_nil ?_
   obtain h0 | ⟨rfl, rB, hbt⟩ := (HB.out.below sb).at'
   ·exact absurd h0 (by omega)
   have hbt' := hbt k hlt
   clear hbt
   iterate 9 go_step
   refine wp_region_qw (by kernel_rfl) (by kernel_rfl) ?_
   refine qw_loadm (by rfl) 27 _ rfl _ (0) rfl r3 (smC (P : Nat) (Q : Nat) (G : Nat)) (part_all _) _ Tryz.underlying27 rfl size_sm ?_
   refine q_m ?_
   simp only [pv]
   refine qw_loadm (by rfl) 27 _ rfl _ (0) rfl r3 (smC (P : Nat) (Q : Nat) (G : Nat)) (part_all _) _ Tryz.underlying27 rfl size_sm ?_
   refine q_m ?_
   refine q_m ?_
   simp only [pv]
   refine q_v (.pointer (some ⟨gb, ob + k * 4, none⟩)) ((exec_index_s 22 _ _ rfl gb ob (n) (c) rfl (k) rfl (hlt) _ Tryz.underlying22 4 size_nat4)) ?_
   simp only [pv]
   refine qw_loadmR (by rfl) 40 _ rfl _ (ob + k * 4) rfl rB (natC (C k)) hbt' _ Tryz.underlying40 rfl size_nat ?_
   simp only [pv]
   refine q_v (.pointer (some ⟨g3, 0, none⟩)) (exec_field 27 _ 0 rfl g3 0 rfl _ Tryz.underlying27 _ rfl 0 Tryz.sizeOf3) ?_
   simp only [pv]
   refine qw_loadc (by rfl) 3 _ rfl _ (0) rfl r3 (.int .i64 (P : Nat)) rfl Tryz.isAgg3 ?_
   simp only [pv]
   refine qw_call (by rfl) 35 _ _ rfl Tryz.func35 (by kernel_rfl) #[.agg (natC (C k)), .int .i64 (P : Nat)] rfl _ hbk ?_
   refine q_m ?_
   simp only [pv]
   refine qw_call (by rfl) 47 _ _ rfl Tryz.func47 (by kernel_rfl) #[.int .i64 (E k : Nat)] rfl _ hik ?_
   simp only [pv]
   refine qw_call (by rfl) 32 _ _ rfl Tryz.func32 (by kernel_rfl) #[.agg (smC (P : Nat) (Q : Nat) (G : Nat)), .int .i64 (X k : Nat), .agg (natC (E k))] rfl _ hxk ?_
   simp only [pv]
   refine qw_call (by rfl) 48 _ _ rfl Tryz.func48 (by kernel_rfl) #[.agg (smC (P : Nat) (Q : Nat) (G : Nat)), .int .i64 (D k : Nat), .int .i64 (T k : Nat)] rfl _ hmk ?_
   refine q_a ?_
   simp only [pv]
   refine qw_nil ?_
   intro w6 hqb
   replace r3 := r3.belowAll hqb
   replace sb := b_o sb hqb
   clear hqb rB hbt'
   iterate 2 go_step
   refine rp ?_
   refine p_m ?_
   refine p_m ?_
   simp only [pv]
   refine p_v (.int .i64 (E (k + 1) : Nat)) (exec_mul_in _ _ _ _ rfl (E k) i (E (k + 1)) rfl rfl hEk (by omega)) ?_
   refine p_a ?_
   simp only [pv]
   refine pw_nil ?_
   iterate 2 go_step
   refine rp ?_
   refine p_m ?_
   simp only [pv]
   refine p_v (.int .i64 ((k + 1 : Nat) : Int)) (exec_add_in _ _ _ _ rfl k 1 rfl rfl (by omega)) ?_
   refine p_a ?_
   simp only [pv]
   refine pw_nil ?_
   go_wp2
   go_roundg x
   case measure => omega
   case rel => exact ⟨k + 1, by omega, rfl, rfl, rfl, r3, sb⟩
theorem rho_0 (ab : Option Addr) (n c P Q G Y : Nat) (yy i : Int) (Is : Bool) (w : World)
  (hlo : ∀ w', Calls Tryz.prog 50 #[.agg (natC Y)] w' fun e w2 => e = .returned (.tuple #[.int .i64 yy, .bool Is]) ∧ Below w'.heap.size w' w2)
  (hma : ∀ w', Below w.heap.size w w' → Calls Tryz.prog 15 #[.agg (smC (P : Nat) (Q : Nat) (G : Nat)), .slice ab n c] w' fun e w2 => e = .returned (.bool false) ∧ Below w'.heap.size w' w2) :
  Calls Tryz.prog 22 #[.agg (smC (P : Nat) (Q : Nat) (G : Nat)), .slice ab n c, .agg (shC i Y)] w fun e w' => e = .returned (.bool false) ∧ Below w.heap.size w w' := by
 go_enter Tryz.func22, Tryz.ntmps22
 iterate 2 go_step
 refine rp ?_
 refine pw_boxr (by rfl) 27 _ rfl (smC (P : Nat) (Q : Nat) (G : Nat)) rfl ?_
 intro g3 z0 n0 r3 k
 simp only [pv]
 clear n0
 have sb := k_b k
 clear k
 refine pw_boxr (by rfl) 48 _ rfl (shC i Y) rfl ?_
 intro g5 z1 n0 r5 k
 simp only [pv]
 clear n0
 replace r3 := k.ro r3
 replace sb := kk sb k
 clear k
 refine p_v (.bool false) (fun _ => rfl) ?_
 simp only [pv]
 refine pw_nil ?_
 iterate 3 go_step
 refine rp ?_
 refine p_v (.pointer (some ⟨g5, 0 + 1, none⟩)) (exec_field 48 _ 1 rfl g5 (0) rfl _ Tryz.underlying48 _ rfl 3 Tryz.sizeOf40) ?_
 simp only [pv]
 refine pw_loadm (by rfl) 40 _ rfl _ (0 + 1) rfl r5.r (natC Y) (sh_part i Y) _ Tryz.underlying40 rfl size_nat ?_
 simp only [pv]
 refine pw_callB (by rfl) 50 _ _ rfl Tryz.func50 (by kernel_rfl) #[.agg (natC Y)] rfl _ (hlo _) ?_
 intro z1002 k
 simp only [pv]
 replace r3 := k.ro r3
 replace r5 := k.ro r5
 replace sb := kk sb k
 clear k
 refine p_m ?_
 refine p_e ?_
 refine p_e ?_
 refine p_a ?_
 refine p_a ?_
 simp only [pv]
 refine pw_nil ?_
 iterate 3 go_step
 refine wp_region_qw (by kernel_rfl) (by kernel_rfl) ?_
 refine qw_loadm (by rfl) 27 _ rfl _ (0) rfl r3 (smC (P : Nat) (Q : Nat) (G : Nat)) (part_all _) _ Tryz.underlying27 rfl size_sm ?_
 refine q_m ?_
 simp only [pv]
 refine qw_callK (by rfl) 15 _ _ rfl Tryz.func15 (by kernel_rfl) #[.agg (smC (P : Nat) (Q : Nat) (G : Nat)), .slice ab n c] rfl _ (fun w' hb => hma w' (below_on sb (Nat.le_refl _) hb)) ?_
 refine q_m ?_
 simp only [pv]
 refine qw_skip (by rfl) ?_
 simp only [pv]
 refine qw_skip (by rfl) ?_
 simp only [pv]
 refine qw_skip (by rfl) ?_
 simp only [pv]
 refine qw_pick false (v := .bool false) (by rfl) rfl rfl rfl ?_
 refine q_m ?_
 simp only [pv]
 refine qw_skip (by rfl) ?_
 simp only [pv]
 refine qw_skip (by rfl) ?_
 simp only [pv]
 refine qw_skip (by rfl) ?_
 simp only [pv]
 refine qw_pick false (v := .bool false) (by rfl) rfl rfl rfl ?_
 refine q_m ?_
 simp only [pv]
 refine qw_skip (by rfl) ?_
 simp only [pv]
 refine qw_pick false (v := .bool false) (by rfl) rfl rfl rfl ?_
 refine q_m ?_
 simp only [pv]
 refine qw_skip (by rfl) ?_
 simp only [pv]
 refine qw_skip (by rfl) ?_
 simp only [pv]
 refine qw_skip (by rfl) ?_
 simp only [pv]
 refine qw_skip (by rfl) ?_
 simp only [pv]
 refine qw_pick false (v := .bool false) (by rfl) rfl rfl rfl ?_
 refine q_m ?_
 simp only [pv]
 refine qw_skip (by rfl) ?_
 simp only [pv]
 refine qw_skip (by rfl) ?_
 simp only [pv]
 refine qw_skip (by rfl) ?_
 simp only [pv]
 refine qw_skip (by rfl) ?_
 simp only [pv]
 refine qw_skip (by rfl) ?_
 simp only [pv]
 refine qw_skip (by rfl) ?_
 simp only [pv]
 refine qw_skip (by rfl) ?_
 simp only [pv]
 refine qw_skip (by rfl) ?_
 simp only [pv]
 refine qw_skip (by rfl) ?_
 simp only [pv]
 refine qw_skip (by rfl) ?_
 simp only [pv]
 refine qw_skip (by rfl) ?_
 simp only [pv]
 refine qw_skip (by rfl) ?_
 simp only [pv]
 refine qw_pick false (v := .bool false) (by rfl) rfl rfl rfl ?_
 refine q_a ?_
 simp only [pv]
 refine qw_nil ?_
 intro w3 hqb
 replace sb := b_o sb hqb
 clear hqb
 go_wp2
 go_ret
 exact ⟨rfl, sb⟩
theorem rho_1 (ab : Option Addr) (n c P Q G Y : Nat) (yy i : Int) (Is : Bool) (h : i < 1) (w : World)
  (hlo : ∀ w', Calls Tryz.prog 50 #[.agg (natC Y)] w' fun e w2 => e = .returned (.tuple #[.int .i64 yy, .bool Is]) ∧ Below w'.heap.size w' w2)
  (hma : ∀ w', Below w.heap.size w w' → Calls Tryz.prog 15 #[.agg (smC (P : Nat) (Q : Nat) (G : Nat)), .slice ab n c] w' fun e w2 => e = .returned (.bool true) ∧ Below w'.heap.size w' w2) :
  Calls Tryz.prog 22 #[.agg (smC (P : Nat) (Q : Nat) (G : Nat)), .slice ab n c, .agg (shC i Y)] w fun e w' => e = .returned (.bool false) ∧ Below w.heap.size w w' := by
 go_enter Tryz.func22, Tryz.ntmps22
 iterate 2 go_step
 refine rp ?_
 refine pw_boxr (by rfl) 27 _ rfl (smC (P : Nat) (Q : Nat) (G : Nat)) rfl ?_
 intro g3 z0 n0 r3 k
 simp only [pv]
 clear n0
 have sb := k_b k
 clear k
 refine pw_boxr (by rfl) 48 _ rfl (shC i Y) rfl ?_
 intro g5 z1 n0 r5 k
 simp only [pv]
 clear n0
 replace r3 := k.ro r3
 replace sb := kk sb k
 clear k
 refine p_v (.bool false) (fun _ => rfl) ?_
 simp only [pv]
 refine pw_nil ?_
 iterate 3 go_step
 refine rp ?_
 refine p_v (.pointer (some ⟨g5, 0 + 1, none⟩)) (exec_field 48 _ 1 rfl g5 (0) rfl _ Tryz.underlying48 _ rfl 3 Tryz.sizeOf40) ?_
 simp only [pv]
 refine pw_loadm (by rfl) 40 _ rfl _ (0 + 1) rfl r5.r (natC Y) (sh_part i Y) _ Tryz.underlying40 rfl size_nat ?_
 simp only [pv]
 refine pw_callB (by rfl) 50 _ _ rfl Tryz.func50 (by kernel_rfl) #[.agg (natC Y)] rfl _ (hlo _) ?_
 intro z1002 k
 simp only [pv]
 replace r3 := k.ro r3
 replace r5 := k.ro r5
 replace sb := kk sb k
 clear k
 refine p_m ?_
 refine p_e ?_
 refine p_e ?_
 refine p_a ?_
 refine p_a ?_
 simp only [pv]
 refine pw_nil ?_
 iterate 3 go_step
 refine wp_region_qw (by kernel_rfl) (by kernel_rfl) ?_
 refine qw_loadm (by rfl) 27 _ rfl _ (0) rfl r3 (smC (P : Nat) (Q : Nat) (G : Nat)) (part_all _) _ Tryz.underlying27 rfl size_sm ?_
 refine q_m ?_
 simp only [pv]
 refine qw_callK (by rfl) 15 _ _ rfl Tryz.func15 (by kernel_rfl) #[.agg (smC (P : Nat) (Q : Nat) (G : Nat)), .slice ab n c] rfl _ (fun w' hb => hma w' (below_on sb (Nat.le_refl _) hb)) ?_
 refine q_m ?_
 simp only [pv]
 refine q_v (.pointer (some ⟨g5, 0, none⟩)) (exec_field 48 _ 0 rfl g5 (0) rfl _ Tryz.underlying48 _ rfl 0 Tryz.sizeOf3) ?_
 simp only [pv]
 refine qw_loadc (by rfl) 3 _ rfl _ (0) rfl r5 (.int .i64 i) rfl Tryz.isAgg3 ?_
 simp only [pv]
 refine q_v (.bool false) (exec_geq_i _ _ _ _ rfl i 1 rfl rfl false (decide_eq_false (by omega))) ?_
 simp only [pv]
 refine qw_pick true (v := .bool false) (by rfl) rfl rfl rfl ?_
 refine q_m ?_
 simp only [pv]
 refine qw_skip (by rfl) ?_
 simp only [pv]
 refine qw_skip (by rfl) ?_
 simp only [pv]
 refine qw_skip (by rfl) ?_
 simp only [pv]
 refine qw_pick false (v := .bool false) (by rfl) rfl rfl rfl ?_
 refine q_m ?_
 simp only [pv]
 refine qw_skip (by rfl) ?_
 simp only [pv]
 refine qw_pick false (v := .bool false) (by rfl) rfl rfl rfl ?_
 refine q_m ?_
 simp only [pv]
 refine qw_skip (by rfl) ?_
 simp only [pv]
 refine qw_skip (by rfl) ?_
 simp only [pv]
 refine qw_skip (by rfl) ?_
 simp only [pv]
 refine qw_skip (by rfl) ?_
 simp only [pv]
 refine qw_pick false (v := .bool false) (by rfl) rfl rfl rfl ?_
 refine q_m ?_
 simp only [pv]
 refine qw_skip (by rfl) ?_
 simp only [pv]
 refine qw_skip (by rfl) ?_
 simp only [pv]
 refine qw_skip (by rfl) ?_
 simp only [pv]
 refine qw_skip (by rfl) ?_
 simp only [pv]
 refine qw_skip (by rfl) ?_
 simp only [pv]
 refine qw_skip (by rfl) ?_
 simp only [pv]
 refine qw_skip (by rfl) ?_
 simp only [pv]
 refine qw_skip (by rfl) ?_
 simp only [pv]
 refine qw_skip (by rfl) ?_
 simp only [pv]
 refine qw_skip (by rfl) ?_
 simp only [pv]
 refine qw_skip (by rfl) ?_
 simp only [pv]
 refine qw_skip (by rfl) ?_
 simp only [pv]
 refine qw_pick false (v := .bool false) (by rfl) rfl rfl rfl ?_
 refine q_a ?_
 simp only [pv]
 refine qw_nil ?_
 intro w3 hqb
 replace sb := b_o sb hqb
 clear hqb
 go_wp2
 go_ret
 exact ⟨rfl, sb⟩
theorem rho_2 (ab : Option Addr) (n c P Q G Y : Nat) (yy i : Int) (Is : Bool) (h1 : 1 ≤ i) (h : 7 < i) (w : World)
  (hlo : ∀ w', Calls Tryz.prog 50 #[.agg (natC Y)] w' fun e w2 => e = .returned (.tuple #[.int .i64 yy, .bool Is]) ∧ Below w'.heap.size w' w2)
  (hma : ∀ w', Below w.heap.size w w' → Calls Tryz.prog 15 #[.agg (smC (P : Nat) (Q : Nat) (G : Nat)), .slice ab n c] w' fun e w2 => e = .returned (.bool true) ∧ Below w'.heap.size w' w2) :
  Calls Tryz.prog 22 #[.agg (smC (P : Nat) (Q : Nat) (G : Nat)), .slice ab n c, .agg (shC i Y)] w fun e w' => e = .returned (.bool false) ∧ Below w.heap.size w w' := by
 go_enter Tryz.func22, Tryz.ntmps22
 iterate 2 go_step
 refine rp ?_
 refine pw_boxr (by rfl) 27 _ rfl (smC (P : Nat) (Q : Nat) (G : Nat)) rfl ?_
 intro g3 z0 n0 r3 k
 simp only [pv]
 clear n0
 have sb := k_b k
 clear k
 refine pw_boxr (by rfl) 48 _ rfl (shC i Y) rfl ?_
 intro g5 z1 n0 r5 k
 simp only [pv]
 clear n0
 replace r3 := k.ro r3
 replace sb := kk sb k
 clear k
 refine p_v (.bool false) (fun _ => rfl) ?_
 simp only [pv]
 refine pw_nil ?_
 iterate 3 go_step
 refine rp ?_
 refine p_v (.pointer (some ⟨g5, 0 + 1, none⟩)) (exec_field 48 _ 1 rfl g5 (0) rfl _ Tryz.underlying48 _ rfl 3 Tryz.sizeOf40) ?_
 simp only [pv]
 refine pw_loadm (by rfl) 40 _ rfl _ (0 + 1) rfl r5.r (natC Y) (sh_part i Y) _ Tryz.underlying40 rfl size_nat ?_
 simp only [pv]
 refine pw_callB (by rfl) 50 _ _ rfl Tryz.func50 (by kernel_rfl) #[.agg (natC Y)] rfl _ (hlo _) ?_
 intro z1002 k
 simp only [pv]
 replace r3 := k.ro r3
 replace r5 := k.ro r5
 replace sb := kk sb k
 clear k
 refine p_m ?_
 refine p_e ?_
 refine p_e ?_
 refine p_a ?_
 refine p_a ?_
 simp only [pv]
 refine pw_nil ?_
 iterate 3 go_step
 refine wp_region_qw (by kernel_rfl) (by kernel_rfl) ?_
 refine qw_loadm (by rfl) 27 _ rfl _ (0) rfl r3 (smC (P : Nat) (Q : Nat) (G : Nat)) (part_all _) _ Tryz.underlying27 rfl size_sm ?_
 refine q_m ?_
 simp only [pv]
 refine qw_callK (by rfl) 15 _ _ rfl Tryz.func15 (by kernel_rfl) #[.agg (smC (P : Nat) (Q : Nat) (G : Nat)), .slice ab n c] rfl _ (fun w' hb => hma w' (below_on sb (Nat.le_refl _) hb)) ?_
 refine q_m ?_
 simp only [pv]
 refine q_v (.pointer (some ⟨g5, 0, none⟩)) (exec_field 48 _ 0 rfl g5 (0) rfl _ Tryz.underlying48 _ rfl 0 Tryz.sizeOf3) ?_
 simp only [pv]
 refine qw_loadc (by rfl) 3 _ rfl _ (0) rfl r5 (.int .i64 i) rfl Tryz.isAgg3 ?_
 simp only [pv]
 refine q_v (.bool true) (exec_geq_i _ _ _ _ rfl i 1 rfl rfl true (decide_eq_true (by omega))) ?_
 simp only [pv]
 refine qw_pick true (v := .bool true) (by rfl) rfl rfl rfl ?_
 refine q_m ?_
 simp only [pv]
 refine q_v (.pointer (some ⟨g5, 0, none⟩)) (exec_field 48 _ 0 rfl g5 (0) rfl _ Tryz.underlying48 _ rfl 0 Tryz.sizeOf3) ?_
 simp only [pv]
 refine qw_loadc (by rfl) 3 _ rfl _ (0) rfl r5 (.int .i64 i) rfl Tryz.isAgg3 ?_
 simp only [pv]
 refine q_v (.bool false) (exec_leq_i _ _ _ _ rfl i 7 rfl rfl false (decide_eq_false (by omega))) ?_
 simp only [pv]
 refine qw_pick true (v := .bool false) (by rfl) rfl rfl rfl ?_
 refine q_m ?_
 simp only [pv]
 refine qw_skip (by rfl) ?_
 simp only [pv]
 refine qw_pick false (v := .bool false) (by rfl) rfl rfl rfl ?_
 refine q_m ?_
 simp only [pv]
 refine qw_skip (by rfl) ?_
 simp only [pv]
 refine qw_skip (by rfl) ?_
 simp only [pv]
 refine qw_skip (by rfl) ?_
 simp only [pv]
 refine qw_skip (by rfl) ?_
 simp only [pv]
 refine qw_pick false (v := .bool false) (by rfl) rfl rfl rfl ?_
 refine q_m ?_
 simp only [pv]
 refine qw_skip (by rfl) ?_
 simp only [pv]
 refine qw_skip (by rfl) ?_
 simp only [pv]
 refine qw_skip (by rfl) ?_
 simp only [pv]
 refine qw_skip (by rfl) ?_
 simp only [pv]
 refine qw_skip (by rfl) ?_
 simp only [pv]
 refine qw_skip (by rfl) ?_
 simp only [pv]
 refine qw_skip (by rfl) ?_
 simp only [pv]
 refine qw_skip (by rfl) ?_
 simp only [pv]
 refine qw_skip (by rfl) ?_
 simp only [pv]
 refine qw_skip (by rfl) ?_
 simp only [pv]
 refine qw_skip (by rfl) ?_
 simp only [pv]
 refine qw_skip (by rfl) ?_
 simp only [pv]
 refine qw_pick false (v := .bool false) (by rfl) rfl rfl rfl ?_
 refine q_a ?_
 simp only [pv]
 refine qw_nil ?_
 intro w3 hqb
 replace sb := b_o sb hqb
 clear hqb
 go_wp2
 go_ret
 exact ⟨rfl, sb⟩
theorem rho_3 (ab : Option Addr) (n c P Q G Y : Nat) (yy i : Int) (h1 : 1 ≤ i) (h : i ≤ 7) (w : World)
  (hlo : ∀ w', Calls Tryz.prog 50 #[.agg (natC Y)] w' fun e w2 => e = .returned (.tuple #[.int .i64 yy, .bool false]) ∧ Below w'.heap.size w' w2)
  (hma : ∀ w', Below w.heap.size w w' → Calls Tryz.prog 15 #[.agg (smC (P : Nat) (Q : Nat) (G : Nat)), .slice ab n c] w' fun e w2 => e = .returned (.bool true) ∧ Below w'.heap.size w' w2) :
  Calls Tryz.prog 22 #[.agg (smC (P : Nat) (Q : Nat) (G : Nat)), .slice ab n c, .agg (shC i Y)] w fun e w' => e = .returned (.bool false) ∧ Below w.heap.size w w' := by
 go_enter Tryz.func22, Tryz.ntmps22
 iterate 2 go_step
 refine rp ?_
 refine pw_boxr (by rfl) 27 _ rfl (smC (P : Nat) (Q : Nat) (G : Nat)) rfl ?_
 intro g3 z0 n0 r3 k
 simp only [pv]
 clear n0
 have sb := k_b k
 clear k
 refine pw_boxr (by rfl) 48 _ rfl (shC i Y) rfl ?_
 intro g5 z1 n0 r5 k
 simp only [pv]
 clear n0
 replace r3 := k.ro r3
 replace sb := kk sb k
 clear k
 refine p_v (.bool false) (fun _ => rfl) ?_
 simp only [pv]
 refine pw_nil ?_
 iterate 3 go_step
 refine rp ?_
 refine p_v (.pointer (some ⟨g5, 0 + 1, none⟩)) (exec_field 48 _ 1 rfl g5 (0) rfl _ Tryz.underlying48 _ rfl 3 Tryz.sizeOf40) ?_
 simp only [pv]
 refine pw_loadm (by rfl) 40 _ rfl _ (0 + 1) rfl r5.r (natC Y) (sh_part i Y) _ Tryz.underlying40 rfl size_nat ?_
 simp only [pv]
 refine pw_callB (by rfl) 50 _ _ rfl Tryz.func50 (by kernel_rfl) #[.agg (natC Y)] rfl _ (hlo _) ?_
 intro z1002 k
 simp only [pv]
 replace r3 := k.ro r3
 replace r5 := k.ro r5
 replace sb := kk sb k
 clear k
 refine p_m ?_
 refine p_e ?_
 refine p_e ?_
 refine p_a ?_
 refine p_a ?_
 simp only [pv]
 refine pw_nil ?_
 iterate 3 go_step
 refine wp_region_qw (by kernel_rfl) (by kernel_rfl) ?_
 refine qw_loadm (by rfl) 27 _ rfl _ (0) rfl r3 (smC (P : Nat) (Q : Nat) (G : Nat)) (part_all _) _ Tryz.underlying27 rfl size_sm ?_
 refine q_m ?_
 simp only [pv]
 refine qw_callK (by rfl) 15 _ _ rfl Tryz.func15 (by kernel_rfl) #[.agg (smC (P : Nat) (Q : Nat) (G : Nat)), .slice ab n c] rfl _ (fun w' hb => hma w' (below_on sb (Nat.le_refl _) hb)) ?_
 refine q_m ?_
 simp only [pv]
 refine q_v (.pointer (some ⟨g5, 0, none⟩)) (exec_field 48 _ 0 rfl g5 (0) rfl _ Tryz.underlying48 _ rfl 0 Tryz.sizeOf3) ?_
 simp only [pv]
 refine qw_loadc (by rfl) 3 _ rfl _ (0) rfl r5 (.int .i64 i) rfl Tryz.isAgg3 ?_
 simp only [pv]
 refine q_v (.bool true) (exec_geq_i _ _ _ _ rfl i 1 rfl rfl true (decide_eq_true (by omega))) ?_
 simp only [pv]
 refine qw_pick true (v := .bool true) (by rfl) rfl rfl rfl ?_
 refine q_m ?_
 simp only [pv]
 refine q_v (.pointer (some ⟨g5, 0, none⟩)) (exec_field 48 _ 0 rfl g5 (0) rfl _ Tryz.underlying48 _ rfl 0 Tryz.sizeOf3) ?_
 simp only [pv]
 refine qw_loadc (by rfl) 3 _ rfl _ (0) rfl r5 (.int .i64 i) rfl Tryz.isAgg3 ?_
 simp only [pv]
 refine q_v (.bool true) (exec_leq_i _ _ _ _ rfl i 7 rfl rfl true (decide_eq_true (by omega))) ?_
 simp only [pv]
 refine qw_pick true (v := .bool true) (by rfl) rfl rfl rfl ?_
 refine q_m ?_
 refine q_m ?_
 simp only [pv]
 refine qw_pick true (v := .bool false) (by rfl) rfl rfl rfl ?_
 refine q_m ?_
 simp only [pv]
 refine qw_skip (by rfl) ?_
 simp only [pv]
 refine qw_skip (by rfl) ?_
 simp only [pv]
 refine qw_skip (by rfl) ?_
 simp only [pv]
 refine qw_skip (by rfl) ?_
 simp only [pv]
 refine qw_pick false (v := .bool false) (by rfl) rfl rfl rfl ?_
 refine q_m ?_
 simp only [pv]
 refine qw_skip (by rfl) ?_
 simp only [pv]
 refine qw_skip (by rfl) ?_
 simp only [pv]
 refine qw_skip (by rfl) ?_
 simp only [pv]
 refine qw_skip (by rfl) ?_
 simp only [pv]
 refine qw_skip (by rfl) ?_
 simp only [pv]
 refine qw_skip (by rfl) ?_
 simp only [pv]
 refine qw_skip (by rfl) ?_
 simp only [pv]
 refine qw_skip (by rfl) ?_
 simp only [pv]
 refine qw_skip (by rfl) ?_
 simp only [pv]
 refine qw_skip (by rfl) ?_
 simp only [pv]
 refine qw_skip (by rfl) ?_
 simp only [pv]
 refine qw_skip (by rfl) ?_
 simp only [pv]
 refine qw_pick false (v := .bool false) (by rfl) rfl rfl rfl ?_
 refine q_a ?_
 simp only [pv]
 refine qw_nil ?_
 intro w3 hqb
 replace sb := b_o sb hqb
 clear hqb
 go_wp2
 go_ret
 exact ⟨rfl, sb⟩
theorem rho_4 (ab : Option Addr) (n c P Q G Y : Nat) (yy i : Int) (h1 : 1 ≤ i) (h : i ≤ 7) (hy : (Q : Nat) ≤ yy) (w : World)
  (hlo : ∀ w', Calls Tryz.prog 50 #[.agg (natC Y)] w' fun e w2 => e = .returned (.tuple #[.int .i64 yy, .bool true]) ∧ Below w'.heap.size w' w2)
  (hma : ∀ w', Below w.heap.size w w' → Calls Tryz.prog 15 #[.agg (smC (P : Nat) (Q : Nat) (G : Nat)), .slice ab n c] w' fun e w2 => e = .returned (.bool true) ∧ Below w'.heap.size w' w2) :
  Calls Tryz.prog 22 #[.agg (smC (P : Nat) (Q : Nat) (G : Nat)), .slice ab n c, .agg (shC i Y)] w fun e w' => e = .returned (.bool false) ∧ Below w.heap.size w w' := by
 go_enter Tryz.func22, Tryz.ntmps22
 iterate 2 go_step
 refine rp ?_
 refine pw_boxr (by rfl) 27 _ rfl (smC (P : Nat) (Q : Nat) (G : Nat)) rfl ?_
 intro g3 z0 n0 r3 k
 simp only [pv]
 clear n0
 have sb := k_b k
 clear k
 refine pw_boxr (by rfl) 48 _ rfl (shC i Y) rfl ?_
 intro g5 z1 n0 r5 k
 simp only [pv]
 clear n0
 replace r3 := k.ro r3
 replace sb := kk sb k
 clear k
 refine p_v (.bool false) (fun _ => rfl) ?_
 simp only [pv]
 refine pw_nil ?_
 iterate 3 go_step
 refine rp ?_
 refine p_v (.pointer (some ⟨g5, 0 + 1, none⟩)) (exec_field 48 _ 1 rfl g5 (0) rfl _ Tryz.underlying48 _ rfl 3 Tryz.sizeOf40) ?_
 simp only [pv]
 refine pw_loadm (by rfl) 40 _ rfl _ (0 + 1) rfl r5.r (natC Y) (sh_part i Y) _ Tryz.underlying40 rfl size_nat ?_
 simp only [pv]
 refine pw_callB (by rfl) 50 _ _ rfl Tryz.func50 (by kernel_rfl) #[.agg (natC Y)] rfl _ (hlo _) ?_
 intro z1002 k
 simp only [pv]
 replace r3 := k.ro r3
 replace r5 := k.ro r5
 replace sb := kk sb k
 clear k
 refine p_m ?_
 refine p_e ?_
 refine p_e ?_
 refine p_a ?_
 refine p_a ?_
 simp only [pv]
 refine pw_nil ?_
 iterate 3 go_step
 refine wp_region_qw (by kernel_rfl) (by kernel_rfl) ?_
 refine qw_loadm (by rfl) 27 _ rfl _ (0) rfl r3 (smC (P : Nat) (Q : Nat) (G : Nat)) (part_all _) _ Tryz.underlying27 rfl size_sm ?_
 refine q_m ?_
 simp only [pv]
 refine qw_callK (by rfl) 15 _ _ rfl Tryz.func15 (by kernel_rfl) #[.agg (smC (P : Nat) (Q : Nat) (G : Nat)), .slice ab n c] rfl _ (fun w' hb => hma w' (below_on sb (Nat.le_refl _) hb)) ?_
 refine q_m ?_
 simp only [pv]
 refine q_v (.pointer (some ⟨g5, 0, none⟩)) (exec_field 48 _ 0 rfl g5 (0) rfl _ Tryz.underlying48 _ rfl 0 Tryz.sizeOf3) ?_
 simp only [pv]
 refine qw_loadc (by rfl) 3 _ rfl _ (0) rfl r5 (.int .i64 i) rfl Tryz.isAgg3 ?_
 simp only [pv]
 refine q_v (.bool true) (exec_geq_i _ _ _ _ rfl i 1 rfl rfl true (decide_eq_true (by omega))) ?_
 simp only [pv]
 refine qw_pick true (v := .bool true) (by rfl) rfl rfl rfl ?_
 refine q_m ?_
 simp only [pv]
 refine q_v (.pointer (some ⟨g5, 0, none⟩)) (exec_field 48 _ 0 rfl g5 (0) rfl _ Tryz.underlying48 _ rfl 0 Tryz.sizeOf3) ?_
 simp only [pv]
 refine qw_loadc (by rfl) 3 _ rfl _ (0) rfl r5 (.int .i64 i) rfl Tryz.isAgg3 ?_
 simp only [pv]
 refine q_v (.bool true) (exec_leq_i _ _ _ _ rfl i 7 rfl rfl true (decide_eq_true (by omega))) ?_
 simp only [pv]
 refine qw_pick true (v := .bool true) (by rfl) rfl rfl rfl ?_
 refine q_m ?_
 refine q_m ?_
 simp only [pv]
 refine qw_pick true (v := .bool true) (by rfl) rfl rfl rfl ?_
 refine q_m ?_
 refine q_m ?_
 simp only [pv]
 refine q_v (.pointer (some ⟨g3, 0 + 1, none⟩)) (exec_field 27 _ 1 rfl g3 0 rfl _ Tryz.underlying27 _ rfl 0 Tryz.sizeOf3) ?_
 simp only [pv]
 refine qw_loadc (by rfl) 3 _ rfl _ (0 + 1) rfl r3 (.int .i64 (Q : Nat)) rfl Tryz.isAgg3 ?_
 simp only [pv]
 refine q_v (.bool false) (exec_lt_b _ _ _ _ rfl yy (Q : Nat) rfl rfl false (decide_eq_false (by omega))) ?_
 simp only [pv]
 refine qw_pick true (v := .bool false) (by rfl) rfl rfl rfl ?_
 refine q_m ?_
 simp only [pv]
 refine qw_skip (by rfl) ?_
 simp only [pv]
 refine qw_skip (by rfl) ?_
 simp only [pv]
 refine qw_skip (by rfl) ?_
 simp only [pv]
 refine qw_skip (by rfl) ?_
 simp only [pv]
 refine qw_skip (by rfl) ?_
 simp only [pv]
 refine qw_skip (by rfl) ?_
 simp only [pv]
 refine qw_skip (by rfl) ?_
 simp only [pv]
 refine qw_skip (by rfl) ?_
 simp only [pv]
 refine qw_skip (by rfl) ?_
 simp only [pv]
 refine qw_skip (by rfl) ?_
 simp only [pv]
 refine qw_skip (by rfl) ?_
 simp only [pv]
 refine qw_skip (by rfl) ?_
 simp only [pv]
 refine qw_pick false (v := .bool false) (by rfl) rfl rfl rfl ?_
 refine q_a ?_
 simp only [pv]
 refine qw_nil ?_
 intro w3 hqb
 replace sb := b_o sb hqb
 clear hqb
 go_wp2
 go_ret
 exact ⟨rfl, sb⟩
theorem rho_5 (ab : Option Addr) (n c P Q G Y : Nat) (yy i : Int) (X1 X2 : Nat) (B : Bool) (hB : decide ((X1 : Int) = X2) = B) (h1 : 1 ≤ i) (h : i ≤ 7) (hy : yy < (Q : Nat)) (w : World)
  (hex : ∀ w', Calls Tryz.prog 32 #[.agg (smC (P : Nat) (Q : Nat) (G : Nat)), .int .i64 (G : Nat), .agg (natC Y)] w' fun e w2 => e = .returned (.int .i64 (X1 : Nat)) ∧ Below w'.heap.size w' w2)
  (hat : ∀ w', Below w.heap.size w w' → Calls Tryz.prog 18 #[.agg (smC (P : Nat) (Q : Nat) (G : Nat)), .slice ab n c, .int .i64 i] w' fun e w2 => e = .returned (.int .i64 (X2 : Nat)) ∧ Below w'.heap.size w' w2)
  (hlo : ∀ w', Calls Tryz.prog 50 #[.agg (natC Y)] w' fun e w2 => e = .returned (.tuple #[.int .i64 yy, .bool true]) ∧ Below w'.heap.size w' w2)
  (hma : ∀ w', Below w.heap.size w w' → Calls Tryz.prog 15 #[.agg (smC (P : Nat) (Q : Nat) (G : Nat)), .slice ab n c] w' fun e w2 => e = .returned (.bool true) ∧ Below w'.heap.size w' w2) :
  Calls Tryz.prog 22 #[.agg (smC (P : Nat) (Q : Nat) (G : Nat)), .slice ab n c, .agg (shC i Y)] w fun e w' => e = .returned (.bool B) ∧ Below w.heap.size w w' := by
 go_enter Tryz.func22, Tryz.ntmps22
 iterate 2 go_step
 refine rp ?_
 refine pw_boxr (by rfl) 27 _ rfl (smC (P : Nat) (Q : Nat) (G : Nat)) rfl ?_
 intro g3 z0 n0 r3 k
 simp only [pv]
 clear n0
 have sb := k_b k
 clear k
 refine pw_boxr (by rfl) 48 _ rfl (shC i Y) rfl ?_
 intro g5 z1 n0 r5 k
 simp only [pv]
 clear n0
 replace r3 := k.ro r3
 replace sb := kk sb k
 clear k
 refine p_v (.bool false) (fun _ => rfl) ?_
 simp only [pv]
 refine pw_nil ?_
 iterate 3 go_step
 refine rp ?_
 refine p_v (.pointer (some ⟨g5, 0 + 1, none⟩)) (exec_field 48 _ 1 rfl g5 (0) rfl _ Tryz.underlying48 _ rfl 3 Tryz.sizeOf40) ?_
 simp only [pv]
 refine pw_loadm (by rfl) 40 _ rfl _ (0 + 1) rfl r5.r (natC Y) (sh_part i Y) _ Tryz.underlying40 rfl size_nat ?_
 simp only [pv]
 refine pw_callB (by rfl) 50 _ _ rfl Tryz.func50 (by kernel_rfl) #[.agg (natC Y)] rfl _ (hlo _) ?_
 intro z1002 k
 simp only [pv]
 replace r3 := k.ro r3
 replace r5 := k.ro r5
 replace sb := kk sb k
 clear k
 refine p_m ?_
 refine p_e ?_
 refine p_e ?_
 refine p_a ?_
 refine p_a ?_
 simp only [pv]
 refine pw_nil ?_
 iterate 3 go_step
 refine wp_region_qw (by kernel_rfl) (by kernel_rfl) ?_
 refine qw_loadm (by rfl) 27 _ rfl _ (0) rfl r3 (smC (P : Nat) (Q : Nat) (G : Nat)) (part_all _) _ Tryz.underlying27 rfl size_sm ?_
 refine q_m ?_
 simp only [pv]
 refine qw_callK (by rfl) 15 _ _ rfl Tryz.func15 (by kernel_rfl) #[.agg (smC (P : Nat) (Q : Nat) (G : Nat)), .slice ab n c] rfl _ (fun w' hb => hma w' (below_on sb (Nat.le_refl _) hb)) ?_
 refine q_m ?_
 simp only [pv]
 refine q_v (.pointer (some ⟨g5, 0, none⟩)) (exec_field 48 _ 0 rfl g5 (0) rfl _ Tryz.underlying48 _ rfl 0 Tryz.sizeOf3) ?_
 simp only [pv]
 refine qw_loadc (by rfl) 3 _ rfl _ (0) rfl r5 (.int .i64 i) rfl Tryz.isAgg3 ?_
 simp only [pv]
 refine q_v (.bool true) (exec_geq_i _ _ _ _ rfl i 1 rfl rfl true (decide_eq_true (by omega))) ?_
 simp only [pv]
 refine qw_pick true (v := .bool true) (by rfl) rfl rfl rfl ?_
 refine q_m ?_
 simp only [pv]
 refine q_v (.pointer (some ⟨g5, 0, none⟩)) (exec_field 48 _ 0 rfl g5 (0) rfl _ Tryz.underlying48 _ rfl 0 Tryz.sizeOf3) ?_
 simp only [pv]
 refine qw_loadc (by rfl) 3 _ rfl _ (0) rfl r5 (.int .i64 i) rfl Tryz.isAgg3 ?_
 simp only [pv]
 refine q_v (.bool true) (exec_leq_i _ _ _ _ rfl i 7 rfl rfl true (decide_eq_true (by omega))) ?_
 simp only [pv]
 refine qw_pick true (v := .bool true) (by rfl) rfl rfl rfl ?_
 refine q_m ?_
 refine q_m ?_
 simp only [pv]
 refine qw_pick true (v := .bool true) (by rfl) rfl rfl rfl ?_
 refine q_m ?_
 refine q_m ?_
 simp only [pv]
 refine q_v (.pointer (some ⟨g3, 0 + 1, none⟩)) (exec_field 27 _ 1 rfl g3 0 rfl _ Tryz.underlying27 _ rfl 0 Tryz.sizeOf3) ?_
 simp only [pv]
 refine qw_loadc (by rfl) 3 _ rfl _ (0 + 1) rfl r3 (.int .i64 (Q : Nat)) rfl Tryz.isAgg3 ?_
 simp only [pv]
 refine q_v (.bool true) (exec_lt_b _ _ _ _ rfl yy (Q : Nat) rfl rfl true (decide_eq_true (by omega))) ?_
 simp only [pv]
 refine qw_pick true (v := .bool true) (by rfl) rfl rfl rfl ?_
 refine q_m ?_
 simp only [pv]
 refine qw_loadm (by rfl) 27 _ rfl _ (0) rfl r3 (smC (P : Nat) (Q : Nat) (G : Nat)) (part_all _) _ Tryz.underlying27 rfl size_sm ?_
 simp only [pv]
 refine q_v (.pointer (some ⟨g3, 0 + 2, none⟩)) (exec_field 27 _ 2 rfl g3 0 rfl _ Tryz.underlying27 _ rfl 0 Tryz.sizeOf3) ?_
 simp only [pv]
 refine qw_loadc (by rfl) 3 _ rfl _ (0 + 2) rfl r3 (.int .i64 (G : Nat)) rfl Tryz.isAgg3 ?_
 simp only [pv]
 refine q_v (.pointer (some ⟨g5, 0 + 1, none⟩)) (exec_field 48 _ 1 rfl g5 (0) rfl _ Tryz.underlying48 _ rfl 3 Tryz.sizeOf40) ?_
 simp only [pv]
 refine qw_loadm (by rfl) 40 _ rfl _ (0 + 1) rfl r5 (natC Y) (sh_part i Y) _ Tryz.underlying40 rfl size_nat ?_
 simp only [pv]
 refine qw_call (by rfl) 32 _ _ rfl Tryz.func32 (by kernel_rfl) #[.agg (smC (P : Nat) (Q : Nat) (G : Nat)), .int .i64 (G : Nat), .agg (natC Y)] rfl _ hex ?_
 simp only [pv]
 refine qw_loadm (by rfl) 27 _ rfl _ (0) rfl r3 (smC (P : Nat) (Q : Nat) (G : Nat)) (part_all _) _ Tryz.underlying27 rfl size_sm ?_
 refine q_m ?_
 simp only [pv]
 refine q_v (.pointer (some ⟨g5, 0, none⟩)) (exec_field 48 _ 0 rfl g5 (0) rfl _ Tryz.underlying48 _ rfl 0 Tryz.sizeOf3) ?_
 simp only [pv]
 refine qw_loadc (by rfl) 3 _ rfl _ (0) rfl r5 (.int .i64 i) rfl Tryz.isAgg3 ?_
 simp only [pv]
 refine qw_callK (by rfl) 18 _ _ rfl Tryz.func18 (by kernel_rfl) #[.agg (smC (P : Nat) (Q : Nat) (G : Nat)), .slice ab n c, .int .i64 i] rfl _ (fun w' hb => hat w' (below_on sb (Nat.le_refl _) hb)) ?_
 simp only [pv]
 refine q_v (.bool B) (exec_eql_k .i64 _ _ _ _ rfl (X1 : Nat) (X2 : Nat) rfl rfl B hB) ?_
 simp only [pv]
 refine qw_pick true (v := .bool B) (by rfl) rfl rfl rfl ?_
 refine q_a ?_
 simp only [pv]
 refine qw_nil ?_
 intro w3 hqb
 replace sb := b_o sb hqb
 clear hqb
 go_wp2
 go_ret
 exact ⟨rfl, sb⟩
theorem rhol14_any (ab : Option Addr) (n c P Q G : Nat) (C : Nat → Nat) (gb ob : Nat) (bcs : Array Value) (tb : TypeId) (i : Int) (Y : Nat) (w : World) (hY : Y < 2 ^ 256) (hn : n < 4611686018427387904) (h2 : 2 ≤ P) (hP : P < 4611686018427387904) (h0 : 0 < Q) (hQ : Q < 4611686018427387904) (hna : NatsAt w ab n C gb ob bcs tb) :
  Calls Tryz.prog 22 #[.agg (smC (P : Nat) (Q : Nat) (G : Nat)), .slice ab n c, .agg (shC i Y)] w fun e w' => e = .returned (.bool (cHol P Q G C n i Y)) ∧ Below w.heap.size w w' := by
 have hma := fun w' (hb : Below w.heap.size w w') => rmay14_any ab n c P Q G C gb ob bcs tb w' hn h2 hP h0 hQ (hna.below hb)
 have hlo := fun w' => rlow_any Y w' hY
 unfold cHol
 cases hm : cMay P Q C n with
 | false =>
  rw [hm] at hma
  rw [Bool.and_false, Bool.and_false]
  exact rho_0 ab n c P Q G Y (lowI Y) i (lowB Y) w hlo hma
 | true =>
  rw [hm] at hma
  rw [Bool.and_true]
  have hn7 : n ≤ 7 := by
   unfold cMay at hm
   simp only [Bool.and_eq_true, decide_eq_true_iff] at hm
   exact hm.1.2
  by_cases h1 : 1 ≤ i
  ·by_cases h7 : i ≤ 7
   ·rw [decide_eq_true h1, decide_eq_true h7, Bool.true_and, Bool.true_and]
    by_cases hl : Y < 9223372036854775808
    ·rw [show lowI Y = ((Y : Nat) : Int) from if_pos hl, show lowB Y = true from decide_eq_true hl] at hlo
     by_cases hy : Y < Q
     ·rw [decide_eq_true hy, Bool.true_and]
      obtain ⟨k, rfl⟩ : ∃ k : Nat, i = k := ⟨i.toNat, by omega⟩
      have e : cAt P C n (k : Nat) = prd (fun j => C j ^ (k ^ j)) n % P := by
       unfold cAt
       rw [if_pos ⟨by omega, h7, hn7⟩, Int.toNat_natCast]
      rw [e]
      exact rho_5 ab n c P Q G Y Y (k : Nat) (G ^ Y % P) (prd (fun j => C j ^ (k ^ j)) n % P) _ (decide_eq_decide.2 Int.ofNat_inj) h1 h7 (by omega) w (fun w' => rexp9_any G Y P ((Q : Nat) : Int) ((G : Nat) : Int) w' hY (by omega) hP) (fun w' hb => rat14_any ab n c P Q G C gb ob bcs tb k w' hn7 (by omega) h2 hP h0 hQ (hna.below hb)) hlo hma
     ·rw [decide_eq_false hy, Bool.false_and]
      exact rho_4 ab n c P Q G Y Y i h1 h7 (by omega) w hlo hma
    ·rw [show lowB Y = false from decide_eq_false hl] at hlo
     rw [decide_eq_false (show ¬ Y < Q by omega), Bool.false_and]
     exact rho_3 ab n c P Q G Y _ i h1 h7 w hlo hma
   ·rw [decide_eq_false h7, Bool.and_false, Bool.false_and, Bool.false_and]
    exact rho_2 ab n c P Q G Y (lowI Y) i (lowB Y) h1 (by omega) w hlo hma
  ·rw [decide_eq_false h1, Bool.false_and, Bool.false_and, Bool.false_and]
   exact rho_1 ab n c P Q G Y (lowI Y) i (lowB Y) (by omega) w hlo hma
end Go.Proofs.YtgdalihjpemjiaaGreat
