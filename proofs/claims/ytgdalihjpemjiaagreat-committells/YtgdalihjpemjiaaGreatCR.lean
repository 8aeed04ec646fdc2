import Derived.Test.YtgdalihjpemjiaaGreatCO
set_option maxRecDepth 100000
set_option maxHeartbeats 2000000
namespace Go.Proofs.YtgdalihjpemjiaaGreat
open Go.RowKit
set_option linter.unusedVariables false
theorem rmay14_any (ab : Option Addr) (n c P Q G : Nat) (C : Nat → Nat) (gb ob : Nat) (bcs : Array Value) (tb : TypeId) (w : World) (hn : n < 4611686018427387904) (h2 : 2 ≤ P) (hP : P < 4611686018427387904) (h0 : 0 < Q) (hQ : Q < 4611686018427387904) (hna : NatsAt w ab n C gb ob bcs tb) :
  Calls Tryz.prog 15 #[.agg (smC (P : Nat) (Q : Nat) (G : Nat)), .slice ab n c] w fun e w' => e = .returned (.bool (cMay P Q C n)) ∧ Below w.heap.size w w' := by
 have hin := fun k w' (hk : k < n) => rin9_any (C k) P Q ((G : Nat) : Int) w' (hna.lt k hk) h2 hP h0 (by omega)
 have HB : Hid (NatsAt w ab n C gb ob bcs tb) := hna
 obtain ⟨B, hB⟩ : ∃ B : Nat → Bool, ∀ k, memN P Q (C k) = B k := ⟨_, fun _ => rfl⟩
 have HM : Hid (cMay P Q C n = (decide (1 ≤ n) && decide (n ≤ 7) && !anB (fun k => !B k) n)) := (show cMay P Q C n = _ by
  unfold cMay
  simp only [hB])
 simp only [hB] at hin
 clear hna hB
 go_enter Tryz.func15, Tryz.ntmps15
 iterate 2 go_step
 refine rp ?_;refine pw_boxr (by rfl) 27 _ rfl (smC (P : Nat) (Q : Nat) (G : Nat)) rfl ?_;intro g2 z0 n0 r2 k;simp only [pv];clear n0
 have sb := k_b k
 clear k;refine p_v (.bool false) (fun _ => rfl) (pw_nil ?_);simp only [pv]
 iterate 4 go_step
 refine rp ?_;refine p_v (.int .i64 0) (fun _ => rfl) (pw_nil ?_);simp only [pv]
 go_wp2_with fail
 go_loopg [5] n (fun x s5 wr => ∃ k : Nat, k + x = n ∧ s5 = .int .i64 k ∧ anB (fun k => !B k) k = false ∧ Row wr g2 (smC (P : Nat) (Q : Nat) (G : Nat)) 27 ∧ Below w.heap.size w wr)
 case atStart => exact ⟨0, by omega, rfl, rfl, r2, sb⟩
 case round =>
  clear r2 sb
  obtain ⟨k, hk, rfl, han, r2, sb⟩ := hrel
  cases gk with
  | zero =>
   obtain rfl : k = n := by omega
   clear hk hin
   iterate 2 go_step
   refine rp ?_;refine p_m ?_;refine p_m ?_;simp only [pv];refine p_v (.int .i64 k) (n_l ab k c sl_natsX) ?_;refine p_v (.bool false) (lt_f k k) (pw_nil ?_);simp only [pv]
   have hM := HM.out
   rw [han] at hM
   by_cases h1 : 1 ≤ k
   ·by_cases h7 : k ≤ 7
    ·have HF : Hid (cMay P Q C k = true) := by rw [hM, decide_eq_true h1, decide_eq_true h7]; rfl
     clear hM HM
     iterate 7 go_step
     refine rp ?_;refine p_m ?_;simp only [pv];refine p_v (.int .i64 k) (n_l ab k c sl_natsX) ?_;simp only [pv];refine p_v (.bool true) (exec_geq_i _ _ _ _ rfl k 1 rfl rfl true (decide_eq_true (by omega))) ?_;refine p_m ?_;refine p_m ?_;simp only [pv];refine p_v (.int .i64 k) (n_l ab k c sl_natsX) ?_;simp only [pv];refine p_v (.bool true) (exec_leq_i _ _ _ _ rfl k 7 rfl rfl true (decide_eq_true (by omega))) ?_;refine p_k true (.bool true) ?_;refine p_a (pw_nil ?_);simp only [pv]
     go_wp2
     go_ret
     exact ⟨by rw [HF.out]; rfl, sb⟩
    ·have HF : Hid (cMay P Q C k = false) := by rw [hM, decide_eq_false h7, Bool.and_false]; rfl
     clear hM HM
     iterate 7 go_step
     refine rp ?_;refine p_m ?_;simp only [pv];refine p_v (.int .i64 k) (n_l ab k c sl_natsX) ?_;simp only [pv];refine p_v (.bool true) (exec_geq_i _ _ _ _ rfl k 1 rfl rfl true (decide_eq_true (by omega))) ?_;refine p_m ?_;refine p_m ?_;simp only [pv];refine p_v (.int .i64 k) (n_l ab k c sl_natsX) ?_;simp only [pv];refine p_v (.bool false) (exec_leq_i _ _ _ _ rfl k 7 rfl rfl false (decide_eq_false (by omega))) ?_;refine p_k true (.bool false) ?_;refine p_a (pw_nil ?_);simp only [pv]
     go_wp2
     go_ret
     exact ⟨by rw [HF.out]; rfl, sb⟩
   ·have HF : Hid (cMay P Q C k = false) := by rw [hM, decide_eq_false h1]; rfl
    clear hM HM
    iterate 7 go_step
    refine rp ?_;refine p_m ?_;simp only [pv];refine p_v (.int .i64 k) (n_l ab k c sl_natsX) ?_;simp only [pv];refine p_v (.bool false) (exec_geq_i _ _ _ _ rfl k 1 rfl rfl false (decide_eq_false (by omega))) ?_;refine p_m ?_;refine p_s ?_;refine p_s ?_;refine p_s ?_;simp only [pv];refine p_k false (.bool false) ?_;refine p_a (pw_nil ?_);simp only [pv]
    go_wp2
    go_ret
    exact ⟨by rw [HF.out]; rfl, sb⟩
  | succ x =>
   have hlt : k < n := by omega
   have hik := fun w' => hin k w' hlt
   iterate 2 go_step
   refine rp ?_;refine p_m ?_;refine p_m ?_;simp only [pv];refine p_v (.int .i64 n) (n_l ab n c sl_natsX) ?_;refine p_v (.bool true) (lt_t k n) (pw_nil ?_);simp only [pv]
   obtain h0 | ⟨rfl, rB, hbt⟩ := (HB.out.below sb).at'
   ·exact absurd h0 (by omega)
   have hbt' := hbt k hlt
   clear hbt
   cases hBk : B k with
   | true =>
    have hnx : anB (fun k => !B k) (k + 1) = false := by
     show (anB _ k || !B k) = false
     rw [han, hBk]; rfl
    rw [hBk] at hik
    iterate 9 go_step
    refine wp_region_qw (by kernel_rfl) (by kernel_rfl) ?_;refine qw_loadm (by rfl) 27 _ rfl _ (0) rfl r2 (smC (P : Nat) (Q : Nat) (G : Nat)) (part_all _) _ Tryz.underlying27 rfl size_sm ?_;refine q_m ?_;refine q_m ?_;simp only [pv];refine q_x k hlt Tryz.underlying22 size_nat4 ?_;simp only [pv];refine qw_loadmR (by rfl) 40 _ rfl _ (ob + k * 4) rfl rB (natC (C k)) hbt' _ Tryz.underlying40 rfl size_nat ?_;simp only [pv];refine q_c 29 Tryz.func29 #[.agg (smC (P : Nat) (Q : Nat) (G : Nat)), .agg (natC (C k))] hik ?_;simp only [pv];refine q_v (.bool false) (exec_not _ _ rfl true rfl) ?_;simp only [pv];refine qw_nil ?_;intro w6 hqb;replace r2 := r2.belowAll hqb;replace sb := b_o sb hqb;clear hqb rB hbt'
    iterate 6 go_step
    refine rp ?_;refine p_m ?_;simp only [pv];refine p_v (.int .i64 ((k + 1 : Nat) : Int)) (x_a k 1) ?_;refine p_a (pw_nil ?_);simp only [pv]
    go_wp2
    go_roundg x
    case measure => omega
    case rel => exact ⟨k + 1, by omega, rfl, hnx, r2, sb⟩
   | false =>
    have HF : Hid (cMay P Q C n = false) := (show cMay P Q C n = false by
     rw [HM.out, (anB_iff _ n).2 ⟨k, hlt, by rw [hBk]; rfl⟩, Bool.not_true, Bool.and_false])
    rw [hBk] at hik
    iterate 9 go_step
    refine wp_region_qw (by kernel_rfl) (by kernel_rfl) ?_;refine qw_loadm (by rfl) 27 _ rfl _ (0) rfl r2 (smC (P : Nat) (Q : Nat) (G : Nat)) (part_all _) _ Tryz.underlying27 rfl size_sm ?_;refine q_m ?_;refine q_m ?_;simp only [pv];refine q_x k hlt Tryz.underlying22 size_nat4 ?_;simp only [pv];refine qw_loadmR (by rfl) 40 _ rfl _ (ob + k * 4) rfl rB (natC (C k)) hbt' _ Tryz.underlying40 rfl size_nat ?_;simp only [pv];refine q_c 29 Tryz.func29 #[.agg (smC (P : Nat) (Q : Nat) (G : Nat)), .agg (natC (C k))] hik ?_;simp only [pv];refine q_v (.bool true) (exec_not _ _ rfl false rfl) ?_;simp only [pv];refine qw_nil ?_;intro w6 hqb;replace sb := b_o sb hqb;clear hqb rB hbt'
    iterate 4 go_step
    refine rp ?_;refine p_v (.bool false) (fun _ => rfl) (pw_nil ?_);simp only [pv]
    go_wp2
    go_ret
    exact ⟨by rw [HF.out]; rfl, sb⟩
def rAt (P : Nat) (C : Nat → Nat) (i k : Nat) : Nat := prd (fun j => C j ^ (i ^ j)) k % P
theorem rat14_any (ab : Option Addr) (n c P Q G : Nat) (C : Nat → Nat) (gb ob : Nat) (bcs : Array Value) (tb : TypeId) (i : Nat) (w : World) (hn : n ≤ 7) (hi7 : i ≤ 7) (h2 : 2 ≤ P) (hP : P < 4611686018427387904) (h0 : 0 < Q) (hQ : Q < 4611686018427387904) (hna : NatsAt w ab n C gb ob bcs tb) :
  Calls Tryz.prog 18 #[.agg (smC (P : Nat) (Q : Nat) (G : Nat)), .slice ab n c, .int .i64 i] w fun e w' => e = .returned (.int .i64 (prd (fun j => C j ^ (i ^ j)) n % P : Nat)) ∧ Below w.heap.size w w' := by
 show Calls _ _ _ _ fun e w' => e = .returned (.int .i64 ((rAt P C i n : Nat) : Int)) ∧ _
 have hby := fun k w' (hk : k < n) => rby_any (C k) P w' (hna.lt k hk) (by omega) hP
 have hit := fun k w' (hk : k < n) => rint_any ((i ^ k : Nat) : Int) w' (by have := pow7 hi7 (show k ≤ 7 by omega); omega)
 simp only [Int.toNat_natCast] at hit
 have hex := fun k w' (hk : k < n) => rexp9_any (C k % P) (i ^ k) P ((Q : Nat) : Int) ((G : Nat) : Int) w' (Nat.lt_trans (pow7 hi7 (show k ≤ 7 by omega)) (by decide)) (by omega) hP
 have hmu := fun k w' => rmul9_any (rAt P C i k) ((C k % P) ^ (i ^ k) % P) P ((Q : Nat) : Int) ((G : Nat) : Int) w' (by omega) hP
 have h10 : rAt P C i 0 = 1 := prd_0 _ P h2
 have hon : ∀ k, rAt P C i k * ((C k % P) ^ (i ^ k) % P) % P = rAt P C i (k + 1) := fun k => prd_on (fun j => C j ^ (i ^ j)) k P (C k) (i ^ k) rfl
 simp only [hon] at hmu
 have HPW : Hid (∀ k, k < n → i ^ k * i = i ^ (k + 1) ∧ i ^ (k + 1) < 4611686018427387904) := fun k hk => ⟨by rw [Nat.pow_succ], pow7 hi7 (by omega)⟩
 have HB : Hid (NatsAt w ab n C gb ob bcs tb) := hna
 generalize rAt P C i = D at *
 obtain ⟨T, hT⟩ : ∃ T : Nat → Nat, ∀ k, (C k % P) ^ (i ^ k) % P = T k := ⟨_, fun _ => rfl⟩
 obtain ⟨X, hX⟩ : ∃ X : Nat → Nat, ∀ k, C k % P = X k := ⟨_, fun _ => rfl⟩
 obtain ⟨E, hE⟩ : ∃ E : Nat → Nat, ∀ k, i ^ k = E k := ⟨_, fun _ => rfl⟩
 have hE0 : E 0 = 1 := by rw [← hE]; exact Nat.pow_zero i
 simp only [hT] at hmu hex
 simp only [hX] at hby hex
 simp only [hE] at hit hex
 have HE : Hid (∀ k, k < n → E k * i = E (k + 1) ∧ E (k + 1) < 4611686018427387904) := fun k hk => by
  have := HPW.out k hk
  simp only [hE] at this
  exact this
 clear hna hon hT hX hE HPW
 go_enter Tryz.func18, Tryz.ntmps18
 iterate 2 go_step
 refine rp ?_;refine pw_boxr (by rfl) 27 _ rfl (smC (P : Nat) (Q : Nat) (G : Nat)) rfl ?_;intro g3 z0 n0 r3 k;simp only [pv];clear n0
 have sb := k_b k
 clear k;refine p_v (.int .i64 0) (fun _ => rfl) (pw_nil ?_);simp only [pv]
 iterate 3 go_step
 refine rp ?_;refine p_v (.int .i64 1) (fun _ => rfl) ?_;refine p_v (.int .i64 1) (fun _ => rfl) (pw_nil ?_);simp only [pv]
 iterate 4 go_step
 refine rp ?_;refine p_v (.int .i64 0) (fun _ => rfl) (pw_nil ?_);simp only [pv]
 go_wp2_with fail
 go_loopg [7, 8, 9] n (fun x s7 s8 s9 wr => ∃ k : Nat, k + x = n ∧ s9 = .int .i64 k ∧ s7 = .int .i64 (D k : Nat) ∧ s8 = .int .i64 (E k : Nat) ∧ Row wr g3 (smC (P : Nat) (Q : Nat) (G : Nat)) 27 ∧ Below w.heap.size w wr)
 case atStart => exact ⟨0, by omega, rfl, by rw [h10]; rfl, by rw [hE0]; rfl, r3, sb⟩
 case round =>
  clear r3 sb
  obtain ⟨k, hk, rfl, rfl, rfl, r3, sb⟩ := hrel
  cases gk with
  | zero =>
   obtain rfl : k = n := by omega
   clear hk hby hit hex hmu
   iterate 2 go_step
   refine rp ?_;refine p_m ?_;refine p_m ?_;simp only [pv];refine p_v (.int .i64 k) (n_l ab k c sl_natsX) ?_;refine p_v (.bool false) (lt_f k k) (pw_nil ?_);simp only [pv]
   iterate 7 go_step
   refine rp ?_;refine p_m ?_;refine p_a (pw_nil ?_);simp only [pv]
   go_wp2
   go_ret
   exact ⟨rfl, sb⟩
  | succ x =>
   have hlt : k < n := by omega
   have hbk := fun w' => hby k w' hlt
   have hik := fun w' => hit k w' hlt
   have hxk := fun w' => hex k w' hlt
   have hmk := hmu k
   obtain ⟨hEk, hEl⟩ := HE.out k hlt
   clear hby hit hex hmu
   iterate 2 go_step
   refine rp ?_;refine p_m ?_;refine p_m ?_;simp only [pv];refine p_v (.int .i64 n) (n_l ab n c sl_natsX) ?_;refine p_v (.bool true) (lt_t k n) (pw_nil ?_);simp only [pv]
   obtain h0 | ⟨rfl, rB, hbt⟩ := (HB.out.below sb).at'
   ·exact absurd h0 (by omega)
   have hbt' := hbt k hlt
   clear hbt
   iterate 9 go_step
   refine wp_region_qw (by kernel_rfl) (by kernel_rfl) ?_;refine qw_loadm (by rfl) 27 _ rfl _ (0) rfl r3 (smC (P : Nat) (Q : Nat) (G : Nat)) (part_all _) _ Tryz.underlying27 rfl size_sm ?_;refine q_m ?_;simp only [pv];refine qw_loadm (by rfl) 27 _ rfl _ (0) rfl r3 (smC (P : Nat) (Q : Nat) (G : Nat)) (part_all _) _ Tryz.underlying27 rfl size_sm ?_;refine q_m ?_;refine q_m ?_;simp only [pv];refine q_x k hlt Tryz.underlying22 size_nat4 ?_;simp only [pv];refine qw_loadmR (by rfl) 40 _ rfl _ (ob + k * 4) rfl rB (natC (C k)) hbt' _ Tryz.underlying40 rfl size_nat ?_;simp only [pv];refine q_v (.pointer (some ⟨g3, 0, none⟩)) (exec_field 27 _ 0 rfl g3 0 rfl _ Tryz.underlying27 _ rfl 0 Tryz.sizeOf3) ?_;simp only [pv];refine qw_loadc (by rfl) 3 _ rfl _ (0) rfl r3 (.int .i64 (P : Nat)) rfl Tryz.isAgg3 ?_;simp only [pv];refine q_c 35 Tryz.func35 #[.agg (natC (C k)), .int .i64 (P : Nat)] hbk ?_;refine q_m ?_;simp only [pv];refine q_c 47 Tryz.func47 #[.int .i64 (E k : Nat)] hik ?_;simp only [pv];refine q_c 32 Tryz.func32 #[.agg (smC (P : Nat) (Q : Nat) (G : Nat)), .int .i64 (X k : Nat), .agg (natC (E k))] hxk ?_;simp only [pv];refine q_c 48 Tryz.func48 #[.agg (smC (P : Nat) (Q : Nat) (G : Nat)), .int .i64 (D k : Nat), .int .i64 (T k : Nat)] hmk ?_;refine q_a ?_;simp only [pv];refine qw_nil ?_;intro w6 hqb;replace r3 := r3.belowAll hqb;replace sb := b_o sb hqb;clear hqb rB hbt'
   iterate 2 go_step
   refine rp ?_;refine p_m ?_;refine p_m ?_;simp only [pv];refine p_v (.int .i64 (E (k + 1) : Nat)) (exec_mul_in _ _ _ _ rfl (E k) i (E (k + 1)) rfl rfl hEk (by omega)) ?_;refine p_a (pw_nil ?_);simp only [pv]
   iterate 2 go_step
   refine rp ?_;refine p_m ?_;simp only [pv];refine p_v (.int .i64 ((k + 1 : Nat) : Int)) (x_a k 1) ?_;refine p_a (pw_nil ?_);simp only [pv]
   go_wp2
   go_roundg x
   case measure => omega
   case rel => exact ⟨k + 1, by omega, rfl, rfl, rfl, r3, sb⟩
theorem kept_self {B : Nat} {w z : World} (_ : Below B w z) (S : List Nat) : Kept S z z := Kept.refl S z
theorem rto14_any {Q : Nat} [NeZero Q] (va : Value) (La : List (Fin Q)) (n P G : Nat) (w : World) (hn : n ≤ 7) (hl : La.length ≤ 1000) (h2 : 2 ≤ P) (hP : P < 4611686018427387904) (hQ : Q < 4611686018427387904) (ha : IlAt w va La) :
  Calls Tryz.prog 20 #[.agg (smC (P : Nat) (Q : Nat) (G : Nat)), va, .int .i64 n] w fun e w' => ∃ ax cx gx cur, e = .returned (.slice ax n cx) ∧ NatsAt w' ax n (fun j => G ^ (pco La j).val % P) gx 0 cur 40 ∧ Below w.heap.size w w' := by
 obtain ⟨ab, c, gb, ob, bcs, tb, rfl, hc, hna⟩ := ha
 obtain ⟨U, hU⟩ : ∃ U : Nat → Nat, ∀ i, (pco La i).val = U i := ⟨_, fun _ => rfl⟩
 have HU0 : Hid (∀ i, La.length ≤ i → U i = 0) := fun i hi => by
  rw [← hU, pco_out _ i hi]
  rfl
 have hUq : ∀ i, U i < Q := fun i => by rw [← hU]; exact (pco La i).isLt
 simp only [hU] at hna ⊢
 have HB : Hid (NumsAt w ab La.length U gb ob bcs tb) := hna
 generalize La.length = tl at *
 obtain ⟨S, hS⟩ : ∃ S : Nat → Nat, ∀ k, G ^ U k % P = S k := ⟨_, fun _ => rfl⟩
 have HSl : Hid (∀ k, S k < 4611686018427387904) := fun k => by
  rw [← hS]
  exact Nat.lt_trans (Nat.mod_lt _ (by omega)) hP
 have hit := fun k w' => rint_any ((U k : Nat) : Int) w' (by have := hUq k; omega)
 simp only [Int.toNat_natCast] at hit
 have hit2 := fun k w' => rint_any ((S k : Nat) : Int) w' (by have := HSl.out k; omega)
 simp only [Int.toNat_natCast] at hit2
 have hex := fun k w' => rexp9_any G (U k) P ((Q : Nat) : Int) ((G : Nat) : Int) w' (by have := hUq k; exact Nat.lt_trans this (Nat.lt_trans hQ (by decide))) (by omega) hP
 simp only [hS] at hex ⊢
 obtain ⟨ie, hie, hz, hsz, hby⟩ := info_nat'
 have h11 : ¬ 1 * ie.size > 2 ^ 24 := by rw [hsz]; decide
 have h12 : ¬ 1 * ie.size = 0 := by rw [hsz]; decide
 have hl1 := fun A => lit_one A ie.size hsz
 clear hna hU hUq hS
 go_enter Tryz.func20, Tryz.ntmps20
 iterate 2 go_step
 refine rp ?_;refine pw_boxr (by rfl) 27 _ rfl (smC (P : Nat) (Q : Nat) (G : Nat)) rfl ?_;intro g3 z0 n0 r3 k;simp only [pv];clear n0
 have sb := k_b k
 clear k;refine p_v (.slice none 0 0) ((fun _ => rfl)) (pw_nil ?_);simp only [pv]
 iterate 3 go_step
 refine rp ?_;refine p_v (.slice none 0 0) ((fun _ => rfl)) (pw_nil ?_);simp only [pv]
 iterate 4 go_step
 refine rp ?_;refine p_v (.int .i64 0) (fun _ => rfl) (pw_nil ?_);simp only [pv]
 go_wp2_with fail
 go_loopg [7, 8, 9] n (fun x s7 s8 s9 wr => ∃ k : Nat, k + x = n ∧ s8 = .int .i64 k ∧ OwnN wr w.heap.size s7 k S ∧ s7.ownBlock ≠ some g3 ∧ Row wr g3 (smC (P : Nat) (Q : Nat) (G : Nat)) 27 ∧ Below w.heap.size w wr)
 case atStart => exact ⟨0, by omega, rfl, ownN_nil _ _ _, nofun, r3, sb⟩
 case round =>
  clear r3 sb
  obtain ⟨k, hk, rfl, hO, eO3, r3, sb⟩ := hrel
  cases gk with
  | zero =>
   obtain rfl : k = n := by omega
   clear hk hit hit2 hex
   obtain ⟨ax, cx, rfl⟩ := own_shape hO
   obtain ⟨_, gx, cur, hnx⟩ := ownN_nats hO (fun i _ => Nat.lt_trans (HSl.out i) (by decide))
   clear hO eO3
   iterate 2 go_step
   refine rp ?_;refine p_m ?_;refine p_m ?_;refine p_v (.bool false) (lt_f k k) (pw_nil ?_);simp only [pv]
   iterate 7 go_step
   refine rp ?_;refine p_m ?_;refine p_a (pw_nil ?_);simp only [pv]
   go_wp2
   go_ret
   exact ⟨ax, ⟨cx, rfl⟩, ⟨gx, cur, hnx⟩, sb⟩
  | succ x =>
   have hi1 := hit k
   have hi2 := hit2 k
   have hxk := hex k
   clear hit hit2 hex
   iterate 2 go_step
   refine rp ?_;refine p_m ?_;refine p_m ?_;refine p_v (.bool true) (lt_t k n) (pw_nil ?_);simp only [pv]
   iterate 9 go_step
   refine rp ?_;refine p_v (.int .i64 0) (fun _ => rfl) (pw_nil ?_);simp only [pv]
   by_cases hkt : k < tl
   ·obtain h0 | ⟨rfl, rB, hbt⟩ := (HB.out.below sb).at'
    ·exact absurd h0 (by omega)
    have hbt' := hbt k hkt
    clear hbt
    iterate 4 go_step
    refine rp ?_;refine p_m ?_;refine p_m ?_;simp only [pv];refine p_v (.int .i64 tl) (n_l (some ⟨gb, ob, none⟩) tl c sl_intsX) ?_;refine p_v (.bool true) (lt_t k tl) (pw_nil ?_);simp only [pv]
    iterate 3 go_step
    refine rp ?_;refine p_m ?_;refine p_m ?_;simp only [pv];refine p_x k hkt Tryz.underlying30 Tryz.sizeOf3 ?_;simp only [pv];refine p_d (ob + k * 1) rB (.int .i64 (U k : Nat)) hbt' Tryz.isAgg3 ?_;refine p_a (pw_nil ?_);simp only [pv];clear rB hbt'
    iterate 2 go_step
    refine wp_region_ot (by kernel_rfl) (fun x => Kept u7.ownBlock.toList _ x) (fun _ _ h1 h2 => h1.trans (Kept.ofBelow h2) (by simp)) (Kept.refl _ _) [] (.leaf [(0, false), (1, false), (2, false), (3, false), (4, false), (5, false), (6, false), (7, false), (8, true), (9, true), (10, false)]) ?_ (by kernel_rfl)
    show EW _ _ _ _ _ _ _ _
    have ck := kept_self sb u7.ownBlock.toList
    have or3 := r3
    have nS3 := own_nin eO3
    refine e_m ?_;simp only [pv];refine ew_loadm (by rfl) 27 _ rfl _ 0 rfl (fun _ hk => (hk.row or3 nS3).r) (smC (P : Nat) (Q : Nat) (G : Nat)) (part_all _) _ Tryz.underlying27 rfl size_sm ?_;simp only [pv];refine e_v (.pointer (some ⟨g3, 0 + 2, none⟩)) (exec_field 27 _ 2 rfl g3 0 rfl _ Tryz.underlying27 _ rfl 0 Tryz.sizeOf3) ?_;simp only [pv];refine ew_loadk (by rfl) 3 _ rfl _ (0 + 2) rfl (fun _ hk => (hk.row or3 nS3).r) (.int .i64 (G : Nat)) rfl Tryz.isAgg3 ?_;refine e_m ?_;simp only [pv];refine ew_call (by rfl) 47 _ _ rfl Tryz.func47 (by kernel_rfl) #[.int .i64 (U k : Nat)] rfl _ (fun w _ => hi1 w) ?_;simp only [pv];refine ew_call (by rfl) 32 _ _ rfl Tryz.func32 (by kernel_rfl) #[.agg (smC (P : Nat) (Q : Nat) (G : Nat)), .int .i64 (G : Nat), .agg (natC (U k))] rfl _ (fun w _ => hxk w) ?_;simp only [pv];refine ew_call (by rfl) 47 _ _ rfl Tryz.func47 (by kernel_rfl) #[.int .i64 (S k : Nat)] rfl _ (fun w _ => hi2 w) ?_;simp only [pv];clear or3;refine ew_litr (by rfl) 22 40 1 _ rfl (natC (S k)) ie _ Tryz.underlying22 hie hz h11 h12 [(0, .agg (natC (S k)))] rfl (hl1 _) ?_;intro wa8 hqb gN wb8 n0 rN hb;replace r3 := r3.belowAll hqb
    replace hO := hO.on (Kept.ofBelow hqb) (own_ne0 _)
    replace sb := b_o sb hqb
    replace ck := ck.trans (Kept.ofBelow hqb) (by simp)
    replace r3 := r3.belowAll hb
    replace hO := hO.on (Kept.ofBelow hb) (own_ne0 _)
    replace sb := b_o sb hb
    replace ck := ck.trans (Kept.ofBelow hb) (by simp)
    refine ⟨fun _ => ck, ?_⟩
    simp only [pv];clear hqb hb n0;refine ew_app1 (by rfl) _ _ 22 rfl w.heap.size 40 ie _ 4 32 Tryz.underlying22 hie hz hsz hby rfl (by decide) u7 k _ rfl hO gN 1 rfl rN (natC_size _) (natC_one _) (by unfold maxLen; omega) (by omega) sb.size ?_;intro wa9 hqb v2 wb9 hN1 kp hp;replace r3 := r3.belowAll hqb
    replace hO := hO.on (Kept.ofBelow hqb) (own_ne0 _)
    replace sb := b_o sb hqb
    replace ck := ck.trans (Kept.ofBelow hqb) (by simp)
    have hOn : OwnN wb9 w.heap.size v2 (k + 1) S := by
     have := hN1
     rw [nsC_snoc] at this
     exact this
    have eN3 := own_apart hp r3.lt eO3
    replace r3 := kp.row r3 (own_nin eO3)
    replace sb := sb.trans (kp.below w.heap.size sb.size hO.base)
    replace ck := ck.trans kp (fun g hg => .inl hg)
    refine ⟨fun _ => ck, ?_⟩
    simp only [pv];clear hqb kp hp hN1 hO ck rN;refine ew_as (by rfl) rfl rfl ?_;simp only [pv];refine ew_nil ?_;intro wz hqb;replace r3 := r3.belowAll hqb
    replace hOn := hOn.on (Kept.ofBelow hqb) (own_ne0 _)
    replace sb := b_o sb hqb;clear hqb
    iterate 2 go_step
    refine rp ?_;refine p_m ?_;simp only [pv];refine p_v (.int .i64 ((k + 1 : Nat) : Int)) (x_a k 1) ?_;refine p_a (pw_nil ?_);simp only [pv]
    go_wp2
    go_roundg x
    case measure => omega
    case rel => exact ⟨k + 1, by omega, rfl, hOn, eN3, r3, sb⟩
   ·have hU0 := HU0.out k (by omega)
    iterate 4 go_step
    refine rp ?_;refine p_m ?_;refine p_m ?_;simp only [pv];refine p_v (.int .i64 tl) (n_l ab tl c sl_intsX) ?_;refine p_v (.bool false) (lt_f k tl) (pw_nil ?_);simp only [pv]
    rw [show (Value.int .i64 0) = .int .i64 ((U k : Nat) : Int) by rw [hU0]; rfl]
    iterate 6 go_step
    refine wp_region_ot (by kernel_rfl) (fun x => Kept u7.ownBlock.toList _ x) (fun _ _ h1 h2 => h1.trans (Kept.ofBelow h2) (by simp)) (Kept.refl _ _) [] (.leaf [(0, false), (1, false), (2, false), (3, false), (4, false), (5, false), (6, false), (7, false), (8, true), (9, true), (10, false)]) ?_ (by kernel_rfl)
    show EW _ _ _ _ _ _ _ _
    have ck := kept_self sb u7.ownBlock.toList
    have or3 := r3
    have nS3 := own_nin eO3
    refine e_m ?_;simp only [pv];refine ew_loadm (by rfl) 27 _ rfl _ 0 rfl (fun _ hk => (hk.row or3 nS3).r) (smC (P : Nat) (Q : Nat) (G : Nat)) (part_all _) _ Tryz.underlying27 rfl size_sm ?_;simp only [pv];refine e_v (.pointer (some ⟨g3, 0 + 2, none⟩)) (exec_field 27 _ 2 rfl g3 0 rfl _ Tryz.underlying27 _ rfl 0 Tryz.sizeOf3) ?_;simp only [pv];refine ew_loadk (by rfl) 3 _ rfl _ (0 + 2) rfl (fun _ hk => (hk.row or3 nS3).r) (.int .i64 (G : Nat)) rfl Tryz.isAgg3 ?_;refine e_m ?_;simp only [pv];refine ew_call (by rfl) 47 _ _ rfl Tryz.func47 (by kernel_rfl) #[.int .i64 (U k : Nat)] rfl _ (fun w _ => hi1 w) ?_;simp only [pv];refine ew_call (by rfl) 32 _ _ rfl Tryz.func32 (by kernel_rfl) #[.agg (smC (P : Nat) (Q : Nat) (G : Nat)), .int .i64 (G : Nat), .agg (natC (U k))] rfl _ (fun w _ => hxk w) ?_;simp only [pv];refine ew_call (by rfl) 47 _ _ rfl Tryz.func47 (by kernel_rfl) #[.int .i64 (S k : Nat)] rfl _ (fun w _ => hi2 w) ?_;simp only [pv];clear or3;refine ew_litr (by rfl) 22 40 1 _ rfl (natC (S k)) ie _ Tryz.underlying22 hie hz h11 h12 [(0, .agg (natC (S k)))] rfl (hl1 _) ?_;intro wa8 hqb gN wb8 n0 rN hb;replace r3 := r3.belowAll hqb
    replace hO := hO.on (Kept.ofBelow hqb) (own_ne0 _)
    replace sb := b_o sb hqb
    replace ck := ck.trans (Kept.ofBelow hqb) (by simp)
    replace r3 := r3.belowAll hb
    replace hO := hO.on (Kept.ofBelow hb) (own_ne0 _)
    replace sb := b_o sb hb
    replace ck := ck.trans (Kept.ofBelow hb) (by simp)
    refine ⟨fun _ => ck, ?_⟩
    simp only [pv];clear hqb hb n0;refine ew_app1 (by rfl) _ _ 22 rfl w.heap.size 40 ie _ 4 32 Tryz.underlying22 hie hz hsz hby rfl (by decide) u7 k _ rfl hO gN 1 rfl rN (natC_size _) (natC_one _) (by unfold maxLen; omega) (by omega) sb.size ?_;intro wa9 hqb v2 wb9 hN1 kp hp;replace r3 := r3.belowAll hqb
    replace hO := hO.on (Kept.ofBelow hqb) (own_ne0 _)
    replace sb := b_o sb hqb
    replace ck := ck.trans (Kept.ofBelow hqb) (by simp)
    have hOn : OwnN wb9 w.heap.size v2 (k + 1) S := by
     have := hN1
     rw [nsC_snoc] at this
     exact this
    have eN3 := own_apart hp r3.lt eO3
    replace r3 := kp.row r3 (own_nin eO3)
    replace sb := sb.trans (kp.below w.heap.size sb.size hO.base)
    replace ck := ck.trans kp (fun g hg => .inl hg)
    refine ⟨fun _ => ck, ?_⟩
    simp only [pv];clear hqb kp hp hN1 hO ck rN;refine ew_as (by rfl) rfl rfl ?_;simp only [pv];refine ew_nil ?_;intro wz hqb;replace r3 := r3.belowAll hqb
    replace hOn := hOn.on (Kept.ofBelow hqb) (own_ne0 _)
    replace sb := b_o sb hqb;clear hqb
    iterate 2 go_step
    refine rp ?_;refine p_m ?_;simp only [pv];refine p_v (.int .i64 ((k + 1 : Nat) : Int)) (x_a k 1) ?_;refine p_a (pw_nil ?_);simp only [pv]
    go_wp2
    go_roundg x
    case measure => omega
    case rel => exact ⟨k + 1, by omega, rfl, hOn, eN3, r3, sb⟩
end Go.Proofs.YtgdalihjpemjiaaGreat
