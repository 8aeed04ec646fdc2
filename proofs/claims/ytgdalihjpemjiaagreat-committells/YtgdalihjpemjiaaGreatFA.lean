import Derived.Test.YtgdalihjpemjiaaGreatGV
import Derived.Test.YtgdalihjpemjiaaGreatWAdd
import Derived.Test.YtgdalihjpemjiaaGreatWI
set_option maxRecDepth 100000
set_option maxHeartbeats 2000000
namespace Go.Proofs.YtgdalihjpemjiaaGreat
set_option linter.unusedVariables false
open Go.RowKit
theorem le_p : lN leL (3 - 1) = 1055500680322183127 := rfl
theorem le_q : lN leL (3 - 2) = 1966023127 := rfl
theorem eqn_yes (X : Nat) : decide (X % 2 ^ 256 = X % 2 ^ 256) = true := decide_eq_true rfl
def sbN (A B q : Nat) : Nat := (A % q + (q - B % q)) % q
def dotN (a b : Nat → Nat) (q : Nat) : Nat → Nat
 | 0 => 0
 | k + 1 => (dotN a b q k + a k * b k % q) % q
theorem dotN_lt (a b : Nat → Nat) (q : Nat) (h : 0 < q) : ∀ k, dotN a b q k < q
 | 0 => h
 | _ + 1 => Nat.mod_lt _ h
theorem subZ_sb (A B q : Nat) (h : 0 < q) : subZ A B q = sbN A B q := if_neg (by omega)
theorem sb_of (x y q : Nat) (hx : x < q) (hy : y < q) : (x + q - y) % q = sbN x y q := by
 unfold sbN
 rw [Nat.mod_eq_of_lt hx, Nat.mod_eq_of_lt hy, Nat.add_sub_assoc (by omega)]
theorem inv_0 {A q : Nat} (hq : IsP q) (h : A % q = 0) : invZ A q = 0 := by
 unfold invZ
 rw [if_neg (by have := hq.1; omega), if_neg]
 intro hg
 have hd : q ∣ Nat.gcd A q := Nat.dvd_gcd (Nat.dvd_of_mod_eq_zero h) (Nat.dvd_refl q)
 rw [hg] at hd
 have := Nat.le_of_dvd (by decide) hd
 have := hq.1
 omega
theorem inv_gcd {A q : Nat} (hq : IsP q) (h : A % q ≠ 0) : Nat.gcd A q = 1 := by
 rw [Nat.gcd_comm]
 exact isP_coprime hq fun hd => h (Nat.mod_eq_zero_of_dvd hd)
theorem inv_1 {A q : Nat} (hq : IsP q) (h : A % q ≠ 0) : A * invZ A q % q = 1 := by
 rw [Nat.mul_comm]
 exact (inv_is A q hq.1 (inv_gcd hq h)).2
theorem inv_lt (A q : Nat) (hq : IsP q) : invZ A q < q := by
 by_cases h : A % q = 0
 ·rw [inv_0 hq h]
  have := hq.1
  omega
 ·exact (inv_is A q hq.1 (inv_gcd hq h)).1
def ivN (x q : Nat) : Nat := if x = 0 then 0 else x ^ (q - 2) % q
theorem iv_is {A q : Nat} (hq : IsP q) : invZ A q = ivN (A % q) q := by
 unfold ivN
 by_cases h : A % q = 0
 ·rw [if_pos h, inv_0 hq h]
 ·have h2 := hq.1
  rw [if_neg h]
  have e : invZ A q = invV A q := by
   unfold invZ
   rw [if_neg (by omega), if_pos (inv_gcd hq h)]
  rw [e]
  refine inv_unique A q _ (Nat.mod_lt _ (by omega)) ?_
  have hd : ¬ q ∣ A := fun hd => h (Nat.mod_eq_zero_of_dvd hd)
  rw [← Nat.pow_mod, Nat.mod_mul_mod, ← Nat.pow_succ, show (q - 2).succ = q - 1 by omega]
  exact fermat hq hd
theorem fIn_core (v f : Option Addr) (A : Nat) (B : Bool) (w : World) (hq : ∀ w', Below w.heap.size w w' → Calls Tryz.prog 69 #[.pointer v] w' (Rt (.pointer f) w'))
  (hin : ∀ w', Below w.heap.size w w' → Calls Tryz.prog 76 #[.pointer f, .agg (natC A)] w' (Rt (.bool B) w')) :
  Calls Tryz.prog 49 #[.pointer v, .agg (natC A)] w fun e w' => e = .returned (.bool B) ∧ Below w.heap.size w w' := by
 go_enter Tryz.func49, Tryz.ntmps49
 iterate 2 go_step
 refine rp ?_;refine pw_boxr (by rfl) 40 _ rfl (_) rfl ?_;intro g3 z0 n0 r3 k;simp only [pv]
 have b3 : w.heap.size ≤ g3 := n0
 clear n0
 have sb := k_b k
 clear k;refine p_v (.bool false) (fun _ => rfl) (pw_nil ?_);simp only [pv]
 iterate 3 go_step
 refine wp_region_qw (by kernel_rfl) (by kernel_rfl) ?_;refine q_m ?_;simp only [pv];refine q_k 69 Tryz.func69 #[.pointer v] (fun w' hb => hq w' (below_on sb (Nat.le_refl _) hb)) ?_;simp only [pv];refine qw_load (by rfl) 40 _ rfl _ rfl r3 4 _ Tryz.underlying40 size_nat ?_;simp only [pv];refine q_k 76 Tryz.func76 #[.pointer f, .agg (natC A)] (fun w' hb => hin w' (below_on sb (Nat.le_refl _) hb)) ?_;refine q_a ?_;simp only [pv];refine qw_nil ?_;intro w3 hqb;replace sb := b_o sb hqb;clear hqb
 go_wp2
 go_ret
 exact ⟨rfl, sb⟩
theorem fAdd_core (v : Option Addr) (A B QQ S : Nat) (z : Int) (w : World) (hq : ∀ w', Below w.heap.size w w' → Calls Tryz.prog 77 #[.pointer v] w' (Rt (.agg (natC QQ)) w'))
  (had : ∀ w', Calls Tryz.prog 106 #[.agg (natC A), .agg (natC B), .agg (natC QQ)] w' (Rt (.tuple #[.agg (natC S), .int .i64 z]) w')) :
  Calls Tryz.prog 72 #[.pointer v, .agg (natC A), .agg (natC B)] w fun e w' => e = .returned (.agg (natC S)) ∧ Below w.heap.size w w' := by
 go_enter Tryz.func72, Tryz.ntmps72
 iterate 2 go_step
 refine rp ?_;refine pw_boxr (by rfl) 40 _ rfl (_) rfl ?_;intro g4 z0 n0 r4 k;simp only [pv];clear n0
 have sb := k_b k
 clear k;refine pw_boxr (by rfl) 40 _ rfl (_) rfl ?_;intro g5 z1 n0 r5 k;simp only [pv];clear n0;replace r4 := k.ro r4;replace sb := kk sb k;clear k;refine pw_new (by rfl) 40 rfl _ zero_nat ?_;intro g6 z2 n0 r6 k;simp only [pv]
 have b6 := Nat.le_trans sb.size n0
 clear n0;replace r4 := k.ro r4;replace r5 := k.ro r5;replace sb := kk sb k;clear k;refine pw_nil ?_
 iterate 3 go_step
 apply wp_region_mix (by kernel_rfl) [] [_, _, _, _, _, _, _, _, _, _, _] trivial List.nodup_nil
 ·intro p;refine m_l r4 ?_;simp only [pv];refine m_l r5 ?_;refine m_m ?_;simp only [pv]
  refine m_k 77 Tryz.func77 #[.pointer v] (fun w' hk => hq w' (sb.trans (hk.below w.heap.size sb.size (by simp <;> omega)))) ?_
  simp only [pv];refine m_c 106 Tryz.func106 #[.agg (natC A), .agg (natC B), .agg (natC QQ)] had ?_;refine m_m ?_;refine m_e ?_;refine m_e ?_;simp only [pv];refine m_n ?_;simp only [pv];refine m_p 17 S ?_;simp only [Act.put];refine m_a ?_;simp only [pv];refine mx_end ?_;intro w2 hkw hrw hnew hdis
  have n7 := hnew 8 rfl
  have zr7 : Row w2 (p 8) (natC S) 40 := hrw 17 (40, natC S) rfl
  have d6x7 := l_l r6.lt n7
  replace r6 := hkw.ro r6;replace sb := kk sb hkw;clear hkw hrw hnew hdis n7
  generalize p 8 = g7 at *
  have r7 := zr7
  clear zr7
  iterate 3 go_step
  refine rp ?_;refine p_l r7.r ?_;simp only [pv];refine p_p r6 S ?_;clear r6;intro z2001 r6 k;simp only [Act.put];replace r7 := k.ro r7;replace sb := kk sb k;clear k;refine pw_nil ?_
  go_wp2
  exact ret_row rfl _ rfl r6 4 _ Tryz.underlying40 (by exact size_nat) rfl ⟨rfl, sb⟩
 ·kernel_rfl
theorem fSub_core (v : Option Addr) (A B QQ S : Nat) (z : Int) (w : World) (hq : ∀ w', Below w.heap.size w w' → Calls Tryz.prog 77 #[.pointer v] w' (Rt (.agg (natC QQ)) w'))
  (had : ∀ w', Calls Tryz.prog 150 #[.agg (natC A), .agg (natC B), .agg (natC QQ)] w' (Rt (.tuple #[.agg (natC S), .int .i64 z]) w')) :
  Calls Tryz.prog 125 #[.pointer v, .agg (natC A), .agg (natC B)] w fun e w' => e = .returned (.agg (natC S)) ∧ Below w.heap.size w w' := by
 go_enter Tryz.func125, Tryz.ntmps125
 iterate 2 go_step
 refine rp ?_;refine pw_boxr (by rfl) 40 _ rfl (_) rfl ?_;intro g4 z0 n0 r4 k;simp only [pv];clear n0
 have sb := k_b k
 clear k;refine pw_boxr (by rfl) 40 _ rfl (_) rfl ?_;intro g5 z1 n0 r5 k;simp only [pv];clear n0;replace r4 := k.ro r4;replace sb := kk sb k;clear k;refine pw_new (by rfl) 40 rfl _ zero_nat ?_;intro g6 z2 n0 r6 k;simp only [pv]
 have b6 := Nat.le_trans sb.size n0
 clear n0;replace r4 := k.ro r4;replace r5 := k.ro r5;replace sb := kk sb k;clear k;refine pw_nil ?_
 iterate 3 go_step
 apply wp_region_mix (by kernel_rfl) [] [_, _, _, _, _, _, _, _, _, _, _] trivial List.nodup_nil
 ·intro p;refine m_l r4 ?_;simp only [pv];refine m_l r5 ?_;refine m_m ?_;simp only [pv]
  refine m_k 77 Tryz.func77 #[.pointer v] (fun w' hk => hq w' (sb.trans (hk.below w.heap.size sb.size (by simp <;> omega)))) ?_
  simp only [pv];refine m_c 150 Tryz.func150 #[.agg (natC A), .agg (natC B), .agg (natC QQ)] had ?_;refine m_m ?_;refine m_e ?_;refine m_e ?_;simp only [pv];refine m_n ?_;simp only [pv];refine m_p 17 S ?_;simp only [Act.put];refine m_a ?_;simp only [pv];refine mx_end ?_;intro w2 hkw hrw hnew hdis
  have n7 := hnew 8 rfl
  have zr7 : Row w2 (p 8) (natC S) 40 := hrw 17 (40, natC S) rfl
  have d6x7 := l_l r6.lt n7
  replace r6 := hkw.ro r6;replace sb := kk sb hkw;clear hkw hrw hnew hdis n7
  generalize p 8 = g7 at *
  have r7 := zr7
  clear zr7
  iterate 3 go_step
  refine rp ?_;refine p_l r7.r ?_;simp only [pv];refine p_p r6 S ?_;clear r6;intro z2001 r6 k;simp only [Act.put];replace r7 := k.ro r7;replace sb := kk sb k;clear k;refine pw_nil ?_
  go_wp2
  exact ret_row rfl _ rfl r6 4 _ Tryz.underlying40 (by exact size_nat) rfl ⟨rfl, sb⟩
 ·kernel_rfl
theorem fInv_core (v : Option Addr) (A QQ S : Nat) (z : Int) (w : World) (hq : ∀ w', Below w.heap.size w w' → Calls Tryz.prog 77 #[.pointer v] w' (Rt (.agg (natC QQ)) w'))
  (hiv : ∀ w', Calls Tryz.prog 154 #[.agg (natC A), .agg (natC QQ)] w' (Rt (.tuple #[.agg (natC S), .int .i64 z]) w')) :
  Calls Tryz.prog 128 #[.pointer v, .agg (natC A)] w fun e w' => e = .returned (.agg (natC S)) ∧ Below w.heap.size w w' := by
 go_enter Tryz.func128, Tryz.ntmps128
 iterate 2 go_step
 refine rp ?_;refine pw_boxr (by rfl) 40 _ rfl (_) rfl ?_;intro g3 z0 n0 r3 k;simp only [pv];clear n0
 have sb := k_b k
 clear k;refine pw_new (by rfl) 40 rfl _ zero_nat ?_;intro g4 z1 n0 r4 k;simp only [pv]
 have b4 := Nat.le_trans sb.size n0
 clear n0;replace r3 := k.ro r3;replace sb := kk sb k;clear k;refine pw_nil ?_
 iterate 3 go_step
 apply wp_region_mix (by kernel_rfl) [] [_, _, _, _, _, _, _, _, _, _] trivial List.nodup_nil
 ·intro p;refine m_l r3 ?_;refine m_m ?_;simp only [pv]
  refine m_k 77 Tryz.func77 #[.pointer v] (fun w' hk => hq w' (sb.trans (hk.below w.heap.size sb.size (by simp <;> omega)))) ?_
  simp only [pv];refine m_c 154 Tryz.func154 #[.agg (natC A), .agg (natC QQ)] hiv ?_;refine m_m ?_;refine m_e ?_;refine m_e ?_;simp only [pv];refine m_n ?_;simp only [pv];refine m_p 15 S ?_;simp only [Act.put];refine m_a ?_;simp only [pv];refine mx_end ?_;intro w2 hkw hrw hnew hdis
  have n5 := hnew 7 rfl
  have zr5 : Row w2 (p 7) (natC S) 40 := hrw 15 (40, natC S) rfl
  have d4x5 := l_l r4.lt n5
  replace r4 := hkw.ro r4;replace sb := kk sb hkw;clear hkw hrw hnew hdis n5
  generalize p 7 = g5 at *
  have r5 := zr5
  clear zr5
  iterate 3 go_step
  refine rp ?_;refine p_l r5.r ?_;simp only [pv];refine p_p r4 S ?_;clear r4;intro z2001 r4 k;simp only [Act.put];replace r5 := k.ro r5;replace sb := kk sb k;clear k;refine pw_nil ?_
  go_wp2
  exact ret_row rfl _ rfl r4 4 _ Tryz.underlying40 (by exact size_nat) rfl ⟨rfl, sb⟩
 ·kernel_rfl
theorem fMul_core (v f : Option Addr) (A B S : Nat) (w : World) (hq : ∀ w', Below w.heap.size w w' → Calls Tryz.prog 69 #[.pointer v] w' (Rt (.pointer f) w'))
  (hmu : ∀ w', Below w.heap.size w w' → Calls Tryz.prog 129 #[.pointer f, .agg (natC A), .agg (natC B)] w' (Rt (.agg (natC S)) w')) :
  Calls Tryz.prog 95 #[.pointer v, .agg (natC A), .agg (natC B)] w fun e w' => e = .returned (.agg (natC S)) ∧ Below w.heap.size w w' := by
 go_enter Tryz.func95, Tryz.ntmps95
 iterate 2 go_step
 refine rp ?_;refine pw_boxr (by rfl) 40 _ rfl (_) rfl ?_;intro g4 z0 n0 r4 k;simp only [pv];clear n0
 have sb := k_b k
 clear k;refine pw_boxr (by rfl) 40 _ rfl (_) rfl ?_;intro g5 z1 n0 r5 k;simp only [pv];clear n0;replace r4 := k.ro r4;replace sb := kk sb k;clear k;refine pw_new (by rfl) 40 rfl _ zero_nat ?_;intro g6 z2 n0 r6 k;simp only [pv]
 have d4x6 := l_l r4.lt n0
 have d5x6 := l_l r5.lt n0
 have b6 := Nat.le_trans sb.size n0
 clear n0;replace r4 := k.ro r4;replace r5 := k.ro r5;replace sb := kk sb k;clear k;refine pw_nil ?_
 iterate 3 go_step
 apply wp_region_mix (by kernel_rfl) [(g6, 40, natC 0)] [_, _, _, _, _, _] ⟨r6, trivial⟩ (by simp <;> omega)
 ·intro p;refine m_m ?_;simp only [pv]
  refine m_k 69 Tryz.func69 #[.pointer v] (fun w' hk => hq w' (sb.trans (hk.below w.heap.size sb.size (by simp <;> omega)))) ?_
  simp only [pv];refine m_l r4 ?_;simp only [pv];refine m_l r5 ?_;simp only [pv]
  refine m_k 129 Tryz.func129 #[.pointer f, .agg (natC A), .agg (natC B)] (fun w' hk => hmu w' (sb.trans (hk.below w.heap.size sb.size (by simp <;> omega)))) ?_
  simp only [pv];refine m_p 0 S ?_;simp only [Act.put];refine mx_end ?_;intro w2 hkw hrw hnew hdis
  have zr6 : Row w2 (g6) (natC S) 40 := hrw 0 (40, natC S) rfl
  replace sb := kk sb hkw;clear hkw hrw hnew hdis r6
  have r6 := zr6
  clear zr6
  go_wp2
  exact ret_row rfl _ rfl r6 4 _ Tryz.underlying40 (by exact size_nat) rfl ⟨rfl, sb⟩
 ·kernel_rfl
theorem ptr_ring8 : Tryz.prog.underlying 71 = some (.pointer (Tryz.prog.pointee 71)) := by kernel_rfl
theorem fDot_core (v ab ae : Option Addr) (n ca ce : Nat) (x : Addr) (a' b' T D : Nat → Nat) (gb ob ge oe : Nat) (bcs ecs : Array Value) (tb te : TypeId) (w : World) (hD0 : D 0 = 0)
  (hna : NatsAt w ab n a' gb ob bcs tb) (hnb : NatsAt w ae n b' ge oe ecs te) (hn63 : n < 9223372036854775808) (hq : ∀ w', Below w.heap.size w w' → Calls Tryz.prog 69 #[.pointer v] w' (Rt (.pointer (some x)) w'))
  (hmu : ∀ i, i < n → ∀ w', Below w.heap.size w w' → Calls Tryz.prog 95 #[.pointer v, .agg (natC (a' i)), .agg (natC (b' i))] w' (Rt (.agg (natC (T i))) w'))
  (had : ∀ i, i < n → ∀ w', Below w.heap.size w w' → Calls Tryz.prog 72 #[.pointer v, .agg (natC (D i)), .agg (natC (T i))] w' (Rt (.agg (natC (D (i + 1)))) w')) :
  Calls Tryz.prog 60 #[.pointer v, .slice ab n ca, .slice ae n ce] w fun e w' => e = .returned (.tuple #[.agg (natC (D n)), .int .i64 0]) ∧ Below w.heap.size w w' := by
 have HB : Hid (NatsAt w ab n a' gb ob bcs tb) := hna
 have HE : Hid (NatsAt w ae n b' ge oe ecs te) := hnb
 clear hna hnb
 go_enter Tryz.func60, Tryz.ntmps60
 iterate 2 go_step
 refine rp ?_;refine pw_new (by rfl) 40 rfl _ zero_nat ?_;intro g6 z0 n0 r6 k;simp only [pv]
 have b6 : w.heap.size ≤ g6 := n0
 clear n0
 have sb := k_b k
 clear k;refine p_v (.int .i64 0) (fun _ => rfl) (pw_nil ?_);simp only [pv]
 iterate 4 go_step
 refine rp ?_;refine p_m ?_;simp only [pv];refine p_c 69 Tryz.func69 #[.pointer v] (hq _ sb) ?_;intro z1001 k;simp only [pv];replace r6 := k.ro r6;replace sb := kk sb k;clear k;refine p_v (.bool false) (exec_eql_nilp _ _ _ _ rfl (some x) rfl rfl ptr_ring8) ?_;refine p_m ?_;refine p_m ?_;simp only [pv];refine p_v (.int .i64 n) (n_l ab n ca sl_nats) ?_;refine p_m ?_;simp only [pv];refine p_v (.int .i64 n) (n_l ae n ce sl_nats) ?_;simp only [pv];refine p_v (.bool false) (exec_neq_k .i64 _ _ _ _ rfl n n rfl rfl false (by rw [decide_eq_true rfl]; rfl)) ?_;refine p_k false (.bool false) (pw_nil ?_);simp only [pv];clear hq
 iterate 7 go_step
 refine rp ?_;refine pw_new (by rfl) 40 rfl _ zero_nat ?_;intro g8 z3000 n0 r8 k;simp only [pv]
 have d6x8 := l_l r6.lt n0
 have b8 := Nat.le_trans sb.size n0
 clear n0;replace r6 := k.ro r6;replace sb := kk sb k;clear k;refine pw_nil ?_
 iterate 4 go_step
 refine rp ?_;refine p_m ?_;simp only [pv];refine p_v (.int .i64 n) (n_l ab n ca sl_nats) ?_;refine p_v (.int .i64 0) (fun _ => rfl) (pw_nil ?_);simp only [pv]
 have r8' : Row _ g8 (natC (D 0)) 40 := hD0 ▸ r8
 clear r8 hD0
 go_wp2_with fail
 go_loopg [9, 23] n (fun g s9 s23 wr => ∃ i : Nat, i + g = n ∧ s23 = .int .i64 i ∧ Row wr g6 (natC 0) 40 ∧ Row wr g8 (natC (D i)) 40 ∧ Below w.heap.size w wr)
 case atStart => exact ⟨0, by omega, rfl, r6, r8', sb⟩
 case round =>
  clear r6 r8' sb
  obtain ⟨i, hi, rfl, r6, r8, sb⟩ := hrel
  cases gk with
  | zero =>
   obtain rfl : i = n := by omega
   clear hi hmu had
   go_step
   refine rp ?_;refine p_v (.bool false) (lt_f i i) (pw_nil ?_);simp only [pv]
   iterate 8 go_step
   refine rp ?_;refine p_l r8.r ?_;simp only [pv];refine p_p r6 (D i) ?_;clear r6;intro z9001 r6 k;simp only [Act.put];replace r8 := k.ro r8;replace sb := kk sb k;clear k;refine p_v (.int .i64 0) (fun _ => rfl) (pw_nil ?_);simp only [pv]
   go_wp2
   exact ret_row2 rfl _ rfl r6 4 _ Tryz.underlying40 (by exact size_nat) rfl _ rfl ⟨rfl, sb⟩
  | succ g =>
   have hlt : i < n := by omega
   replace hmu := hmu i hlt;replace had := had i hlt
   go_step
   refine rp ?_;refine p_v (.bool true) (lt_t i n) (pw_nil ?_);simp only [pv]
   iterate 10 go_step
   refine rp ?_;refine p_m ?_;refine p_a (pw_nil ?_);simp only [pv]
   obtain h0 | ⟨rfl, rB, hbt⟩ := (HB.out.below sb).at'
   ·omega
   obtain h0 | ⟨rfl, rE, het⟩ := (HE.out.below sb).at'
   ·omega
   have lB := ((HB.out.at'.resolve_left (by omega)).2.1).lt
   have lE := ((HE.out.at'.resolve_left (by omega)).2.1).lt
   iterate 2 go_step
   apply wp_region_mix (by kernel_rfl) [(g8, 40, natC (D i))] [_, _, _, _, _, _, _, _, _, _, _, _, _, _] ⟨r8, trivial⟩ (by simp <;> omega)
   ·intro p;refine m_m ?_;simp only [pv];refine mx_loadT 0 40 _ rfl rfl rfl 4 _ Tryz.underlying40 size_nat ?_;refine m_m ?_;refine m_m ?_;refine m_m ?_;simp only [pv];refine m_x i hlt Tryz.underlying22 size_nat4 ?_;simp only [pv];refine mx_loadmR 40 _ rfl _ ((ob + i * 4)) rfl rB (by simp <;> omega) (natC (a' i)) (hbt i hlt) _ Tryz.underlying40 rfl size_nat ?_;refine m_m ?_;refine m_m ?_;simp only [pv];refine m_x i hlt Tryz.underlying22 size_nat4 ?_;simp only [pv];refine mx_loadmR 40 _ rfl _ ((oe + i * 4)) rfl rE (by simp <;> omega) (natC (b' i)) (het i hlt) _ Tryz.underlying40 rfl size_nat ?_;simp only [pv]
    refine m_k 95 Tryz.func95 #[.pointer v, .agg (natC (a' i)), .agg (natC (b' i))] (fun w' hk => hmu w' (sb.trans (hk.below w.heap.size sb.size (by simp <;> omega)))) ?_
    simp only [pv]
    refine m_k 72 Tryz.func72 #[.pointer v, .agg (natC (D i)), .agg (natC (T i))] (fun w' hk => had w' (sb.trans (hk.below w.heap.size sb.size (by simp <;> omega)))) ?_
    simp only [pv];refine m_p 0 (D (i + 1)) ?_;simp only [Act.put];refine mx_end ?_;intro w10 hkw hrw hnew hdis
    have zr8 : Row w10 (g8) (natC (D (i + 1))) 40 := hrw 0 (40, natC (D (i + 1))) rfl
    replace r6 := hkw.ro r6;replace sb := kk sb hkw;clear hkw hrw hnew hdis r8
    have r8 := zr8
    clear zr8
    iterate 2 go_step
    refine rp ?_;refine p_v (.int .i64 ((i + 1 : Nat) : Int)) (x_a i 1) ?_;refine p_m (pw_nil ?_);simp only [pv]
    go_wp2
    go_roundg g
    case measure => omega
    case rel => exact ⟨i + 1, by omega, rfl, r6, r8, sb⟩
   ·kernel_rfl
structure FdQ (Q : Nat) : Prop extends RgQ Q where
 pr : IsP Q
theorem FdQ.pos {Q : Nat} (h : FdQ Q) : 0 < Q := Nat.lt_of_lt_of_le (by decide) h.two
theorem fIn_ok (A g gr gf P Q G : Nat) (w : World) (hA : A < 2 ^ 256) (q : FdQ Q) (h : GrpAt w g gr gf P Q G) :
  Calls Tryz.prog 49 #[.pointer (some ⟨g, 0, none⟩), .agg (natC A)] w fun e w' => e = .returned (.bool (decide (A < Q))) ∧ Below w.heap.size w w' := by
 refine fIn_core _ _ A _ w (fun w' hb => grpField_any _ _ _ _ _ _ w' (h.below hb).kn) fun w' hb => ?_
 have := ringIn_any A Q _ _ _ gf w' hA q.pos q.m (h.below hb).fld
 rw [cmp_neg] at this
 exact this
theorem fAdd_ok (A B g gr gf P Q G : Nat) (w : World) (hA : A < 2 ^ 256) (hB : B < 2 ^ 256) (q : FdQ Q) (h : GrpAt w g gr gf P Q G) :
  Calls Tryz.prog 72 #[.pointer (some ⟨g, 0, none⟩), .agg (natC A), .agg (natC B)] w fun e w' => e = .returned (.agg (natC ((A + B) % Q))) ∧ Below w.heap.size w w' := by
 refine fAdd_core _ A B Q _ (errI Q) w (fun w' hb => grpQ_any _ _ _ _ _ _ w' (h.below hb).kn) fun w' => ?_
 have := wadd_any A B Q w' hA hB q.m
 rw [modZ_full _ _ (Nat.pos_iff_ne_zero.1 q.pos)] at this
 exact this
theorem fSub_ok (A B g gr gf P Q G : Nat) (w : World) (hA : A < 2 ^ 256) (hB : B < 2 ^ 256) (q : FdQ Q) (h : GrpAt w g gr gf P Q G) :
  Calls Tryz.prog 125 #[.pointer (some ⟨g, 0, none⟩), .agg (natC A), .agg (natC B)] w fun e w' => e = .returned (.agg (natC (sbN A B Q))) ∧ Below w.heap.size w w' := by
 refine fSub_core _ A B Q _ (errI Q) w (fun w' hb => grpQ_any _ _ _ _ _ _ w' (h.below hb).kn) fun w' => ?_
 have := wsub_any A B Q w' hA hB q.m
 rw [subZ_sb _ _ _ q.pos] at this
 exact this
theorem fMul_ok (A B g gr gf P Q G : Nat) (w : World) (hA : A < 2 ^ 256) (hB : B < 2 ^ 256) (q : FdQ Q) (h : GrpAt w g gr gf P Q G) :
  Calls Tryz.prog 95 #[.pointer (some ⟨g, 0, none⟩), .agg (natC A), .agg (natC B)] w fun e w' => e = .returned (.agg (natC (A * B % Q))) ∧ Below w.heap.size w w' :=
 fMul_core _ _ A B _ w (fun w' hb => grpField_any _ _ _ _ _ _ w' (h.below hb).kn) fun w' hb => mul_ok A B Q gf q.toRgQ w' hA hB (h.below hb).fld
theorem fInv_ok (A g gr gf P Q G : Nat) (w : World) (hA : A < 2 ^ 256) (q : FdQ Q) (h : GrpAt w g gr gf P Q G) :
  Calls Tryz.prog 128 #[.pointer (some ⟨g, 0, none⟩), .agg (natC A)] w fun e w' => e = .returned (.agg (natC (invZ A Q))) ∧ Below w.heap.size w w' :=
 fInv_core _ A Q _ _ w (fun w' hb => grpQ_any _ _ _ _ _ _ w' (h.below hb).kn) fun w' => winv_any A Q w' hA q.m
theorem fDot_ok (g gr gf P Q G n ca ce : Nat) (ab ae : Option Addr) (a' b' : Nat → Nat) (gb ob ge oe : Nat) (bcs ecs : Array Value) (tb te : TypeId) (w : World) (q : FdQ Q) (hn : n < 9223372036854775808)
  (hna : NatsAt w ab n a' gb ob bcs tb) (hnb : NatsAt w ae n b' ge oe ecs te) (h : GrpAt w g gr gf P Q G) :
  Calls Tryz.prog 60 #[.pointer (some ⟨g, 0, none⟩), .slice ab n ca, .slice ae n ce] w fun e w' => e = .returned (.tuple #[.agg (natC (dotN a' b' Q n)), .int .i64 0]) ∧ Below w.heap.size w w' :=
 fDot_core _ ab ae n ca ce ⟨gf, 0, none⟩ a' b' (fun i => a' i * b' i % Q) (dotN a' b' Q) gb ob ge oe bcs ecs tb te w rfl hna hnb hn (fun w' hb => grpField_any _ _ _ _ _ _ w' (h.below hb).kn)
  (fun i hi w' hb => fMul_ok _ _ g gr gf P Q G w' (hna.lt i hi) (hnb.lt i hi) q (h.below hb))
  (fun i _ w' hb => fAdd_ok _ _ g gr gf P Q G w' (Nat.lt_trans (dotN_lt a' b' Q q.pos i) q.m) (Nat.lt_trans (Nat.mod_lt _ q.pos) q.m) q (h.below hb))
def NoG (w : World) (v : Option Addr) : Prop := KnAt w v 0 0 0 none none
theorem NoG.below {w w' : World} {v : Option Addr} (h : NoG w v) (hb : Below w.heap.size w w') : NoG w' v := KnAt.below h hb
theorem fAdd_no (v : Option Addr) (A B : Nat) (w : World) (hA : A < 2 ^ 256) (hB : B < 2 ^ 256) (h : NoG w v) :
  Calls Tryz.prog 72 #[.pointer v, .agg (natC A), .agg (natC B)] w fun e w' => e = .returned (.agg (natC 0)) ∧ Below w.heap.size w w' :=
 fAdd_core _ A B 0 0 _ w (fun w' hb => grpQ_any _ _ _ _ _ _ w' (h.below hb)) fun w' => wadd_any A B 0 w' hA hB (by decide)
theorem fMul_no (v : Option Addr) (A B : Nat) (w : World) (h : NoG w v) :
  Calls Tryz.prog 95 #[.pointer v, .agg (natC A), .agg (natC B)] w fun e w' => e = .returned (.agg (natC 0)) ∧ Below w.heap.size w w' :=
 fMul_core _ _ A B _ w (fun w' hb => grpField_any _ _ _ _ _ _ w' (h.below hb)) fun w' _ => mul_no none A B w' (.inl rfl)
theorem rby_core (A QN X : Nat) (q : Int) (w : World)
  (hin : ∀ w', Calls Tryz.prog 47 #[.int .i64 q] w' (Rt (.agg (natC QN)) w'))
  (hrm : ∀ w', Calls Tryz.prog 68 #[.agg (natC A), .agg (natC 0), .agg (natC QN)] w' (Rt (.tuple #[.agg (natC X), .int .i64 0]) w'))
  (hlo : ∀ w', Calls Tryz.prog 50 #[.agg (natC X)] w' (Rt (.tuple #[.int .i64 (X : Nat), .bool true]) w')) :
  Calls Tryz.prog 35 #[.agg (natC A), .int .i64 q] w fun e w' => e = .returned (.int .i64 (X : Nat)) ∧ Below w.heap.size w w' := by
 go_enter Tryz.func35, Tryz.ntmps35
 iterate 2 go_step
 refine rp ?_;refine pw_boxr (by rfl) 40 _ rfl (_) rfl ?_;intro g2 z0 n0 r2 k;simp only [pv]
 have b2 : w.heap.size ≤ g2 := n0
 clear n0
 have sb := k_b k
 clear k;refine p_v (.int .i64 0) (fun _ => rfl) (pw_nil ?_);simp only [pv]
 iterate 3 go_step
 apply wp_region_mix (by kernel_rfl) [] [_, _, _, _, _, _, _, _, _, _, _] trivial List.nodup_nil
 ·intro p;refine m_l r2 ?_;simp only [pv];refine mx_val (.agg (natC 0)) (exec_build0 _ rfl _ built_nat) ?_;refine m_m ?_;simp only [pv];refine m_c 47 Tryz.func47 #[.int .i64 q] hin ?_;simp only [pv];refine m_c 68 Tryz.func68 #[.agg (natC A), .agg (natC 0), .agg (natC QN)] hrm ?_;refine m_m ?_;refine m_e ?_;refine m_e ?_;simp only [pv];refine m_n ?_;simp only [pv];refine m_p 17 X ?_;simp only [Act.put];refine m_a ?_;simp only [pv];refine mx_end ?_;intro w2 hkw hrw hnew hdis
  have n5 := hnew 8 rfl
  have zr5 : Row w2 (p 8) (natC X) 40 := hrw 17 (40, natC X) rfl
  have b5 := Nat.le_trans sb.size n5
  replace sb := kk sb hkw;clear hkw hrw hnew hdis n5
  generalize p 8 = g5 at *
  have r5 := zr5
  clear zr5
  iterate 3 go_step
  refine rp ?_;refine p_l r5.r ?_;simp only [pv];refine p_c 50 Tryz.func50 #[.agg (natC X)] (hlo _) ?_;intro z2001 k;simp only [pv];replace r5 := k.ro r5;replace sb := kk sb k;clear k;refine p_m ?_;refine p_e ?_;refine p_e ?_;refine p_a ?_;refine p_a (pw_nil ?_);simp only [pv]
  iterate 3 go_step
  refine rp ?_;refine p_m ?_;refine p_a (pw_nil ?_);simp only [pv]
  go_wp2
  go_ret
  exact ⟨rfl, sb⟩
 ·kernel_rfl
theorem rby_any (A q : Nat) (w : World) (hA : A < 2 ^ 256) (h0 : 0 < q) (hq : q < 4611686018427387904) :
  Calls Tryz.prog 35 #[.agg (natC A), .int .i64 (q : Nat)] w fun e w' => e = .returned (.int .i64 (A % q : Nat)) ∧ Below w.heap.size w w' := by
 have hX := Nat.mod_lt A h0
 refine rby_core A q (A % q) q w (fun w' => ?_) (fun w' => ?_) fun w' => ?_
 ·have := rint_any (q : Int) w' (by omega)
  rw [Int.toNat_natCast] at this
  exact this
 ·have := rrem_any A 0 q w' hA (by decide) (by omega)
  rw [show modZ (0 * 2 ^ 256 + A) q = A % q by unfold modZ; rw [if_neg (by omega), Nat.zero_mul, Nat.zero_add], show errI q = 0 by unfold errI; rw [if_neg (by omega)]] at this
  exact this
 ·have := rlow_any (A % q) w' (by omega)
  rw [show lowI (A % q) = ((A % q : Nat) : Int) from if_pos (by omega), show lowB (A % q) = true from decide_eq_true (by omega)] at this
  exact this
theorem radd8_any (x y q : Nat) (w : World) (h0 : 0 < q) (hx : x < 4611686018427387904) (hy : y < 4611686018427387904) :
  Calls Tryz.prog 130 #[.int .i64 (x : Nat), .int .i64 (y : Nat), .int .i64 (q : Nat)] w fun e w' => e = .returned (.int .i64 ((x + y) % q : Nat)) ∧ Below w.heap.size w w' := by
 go_enter Tryz.func130, Tryz.ntmps130
 have sb := Below.refl w.heap.size w
 repeat ((fail_if_success with_reducible apply rg); go_step)
 refine rp ?_;refine p_v (.int .i64 0) (fun _ => rfl) (pw_nil ?_);simp only [pv]
 repeat ((fail_if_success with_reducible apply rg); go_step)
 refine rp ?_;refine p_m ?_;refine p_m ?_;simp only [pv];refine p_v (.int .i64 ((x + y : Nat) : Int)) (x_a x y) ?_;refine p_m ?_;simp only [pv];refine p_v (.int .i64 (((x + y) % q : Nat) : Int)) (exec_rem_i _ _ _ _ rfl (x + y) q rfl rfl h0) ?_;refine p_a (pw_nil ?_);simp only [pv]
 go_wp2
 go_ret
 exact ⟨rfl, sb⟩
theorem rsub8_any (x y q : Nat) (w : World) (h0 : 0 < q) (hx : x < q) (hy : y < q) (hq : q < 4611686018427387904) :
  Calls Tryz.prog 98 #[.int .i64 (x : Nat), .int .i64 (y : Nat), .int .i64 (q : Nat)] w fun e w' => e = .returned (.int .i64 (sbN x y q : Nat)) ∧ Below w.heap.size w w' := by
 have hs : (x + q - y) % q = sbN x y q := sb_of x y q hx hy
 generalize sbN x y q = S at *
 go_enter Tryz.func98, Tryz.ntmps98
 have sb := Below.refl w.heap.size w
 repeat ((fail_if_success with_reducible apply rg); go_step)
 refine rp ?_;refine p_v (.int .i64 0) (fun _ => rfl) (pw_nil ?_);simp only [pv]
 repeat ((fail_if_success with_reducible apply rg); go_step)
 refine rp ?_;refine p_m ?_;refine p_m ?_;simp only [pv];refine p_v (.int .i64 ((x + q : Nat) : Int)) (x_a x q) ?_;refine p_m ?_;simp only [pv];refine p_v (.int .i64 ((x + q - y : Nat) : Int)) (exec_sub_in _ _ _ _ rfl (x + q) y rfl rfl (by omega) (by omega)) ?_;refine p_m ?_;simp only [pv];refine p_v (.int .i64 (S : Nat)) (fun w' => (exec_rem_i _ _ _ _ rfl (x + q - y) q rfl rfl h0 w').trans (by rw [hs])) ?_;refine p_a (pw_nil ?_);simp only [pv]
 go_wp2
 go_ret
 exact ⟨rfl, sb⟩
theorem rmul8_any (x y q : Nat) (w : World) (h0 : 0 < q) (hq : q < 4611686018427387904) :
  Calls Tryz.prog 64 #[.int .i64 (x : Nat), .int .i64 (y : Nat), .int .i64 (q : Nat)] w fun e w' => e = .returned (.int .i64 (x * y % q : Nat)) ∧ Below w.heap.size w w' := by
 have hti := fun w' => rtimes_any x y q w' h0 hq
 generalize x * y % q = T at *
 clear h0 hq
 go_enter Tryz.func64, Tryz.ntmps64
 have sb := Below.refl w.heap.size w
 repeat ((fail_if_success with_reducible apply rg); go_step)
 refine rp ?_;refine p_v (.int .i64 0) (fun _ => rfl) (pw_nil ?_);simp only [pv]
 repeat ((fail_if_success with_reducible apply rg); go_step)
 refine rp ?_;refine p_m ?_;refine p_m ?_;refine p_m ?_;simp only [pv];refine p_c 80 Tryz.func80 #[.int .i64 (x : Nat), .int .i64 (y : Nat), .int .i64 (q : Nat)] (hti _) ?_;intro z1003 k;simp only [pv];replace sb := kk sb k;clear k;refine p_a (pw_nil ?_);simp only [pv]
 go_wp2
 go_ret
 exact ⟨rfl, sb⟩
theorem rinv8_zero (q : Nat) (w : World) :
  Calls Tryz.prog 97 #[.int .i64 ((0 : Nat) : Int), .int .i64 (q : Nat)] w fun e w' => e = .returned (.int .i64 ((0 : Nat) : Int)) ∧ Below w.heap.size w w' := by
 go_enter Tryz.func97, Tryz.ntmps97
 have sb := Below.refl w.heap.size w
 repeat ((fail_if_success with_reducible apply rg); go_step)
 refine rp ?_;refine p_v (.int .i64 0) (fun _ => rfl) (pw_nil ?_);simp only [pv]
 repeat ((fail_if_success with_reducible apply rg); go_step)
 refine rp ?_;refine p_m ?_;simp only [pv];refine p_v (.bool true) (exec_eql_k .i64 _ _ _ _ rfl ((0 : Nat) : Int) 0 rfl rfl true rfl) (pw_nil ?_);simp only [pv]
 repeat ((fail_if_success with_reducible apply rg); go_step)
 refine rp ?_;refine p_v (.int .i64 0) (fun _ => rfl) (pw_nil ?_);simp only [pv]
 go_wp2
 go_ret
 exact ⟨rfl, sb⟩
theorem rinv8_more (x q : Nat) (w : World) (hx : x ≠ 0) (h2 : 2 ≤ q) (hq : q < 4611686018427387904) :
  Calls Tryz.prog 97 #[.int .i64 (x : Nat), .int .i64 (q : Nat)] w fun e w' => e = .returned (.int .i64 (x ^ (q - 2) % q : Nat)) ∧ Below w.heap.size w w' := by
 have hin := fun w' => rint_any ((q - 2 : Nat) : Int) w' (by omega)
 rw [Int.toNat_natCast] at hin
 have hpo := fun w' => rpower_any x (q - 2) q w' (by omega) (by omega) hq
 generalize x ^ (q - 2) % q = T at *
 go_enter Tryz.func97, Tryz.ntmps97
 have sb := Below.refl w.heap.size w
 repeat ((fail_if_success with_reducible apply rg); go_step)
 refine rp ?_;refine p_v (.int .i64 0) (fun _ => rfl) (pw_nil ?_);simp only [pv]
 repeat ((fail_if_success with_reducible apply rg); go_step)
 refine rp ?_;refine p_m ?_;simp only [pv];refine p_v (.bool false) (exec_eql_k .i64 _ _ _ _ rfl (x : Nat) 0 rfl rfl false (decide_eq_false (by omega))) (pw_nil ?_);simp only [pv]
 repeat ((fail_if_success with_reducible apply rg); go_step)
 refine rp ?_;refine p_m ?_;refine p_m ?_;simp only [pv];refine p_v (.int .i64 ((q - 2 : Nat) : Int)) (exec_sub_in _ _ _ _ rfl q 2 rfl rfl h2 (by omega)) ?_;simp only [pv];refine p_c 47 Tryz.func47 #[.int .i64 ((q - 2 : Nat) : Int)] (hin _) ?_;intro z3003 k;simp only [pv];replace sb := kk sb k;clear k;refine p_m ?_;simp only [pv];refine p_c 65 Tryz.func65 #[.int .i64 (x : Nat), .agg (natC (q - 2)), .int .i64 (q : Nat)] (hpo _) ?_;intro z3005 k;simp only [pv];replace sb := kk sb k;clear k;refine p_a (pw_nil ?_);simp only [pv]
 go_wp2
 go_ret
 exact ⟨rfl, sb⟩
theorem rinv8_any (x q : Nat) (w : World) (h2 : 2 ≤ q) (hq : q < 4611686018427387904) :
  Calls Tryz.prog 97 #[.int .i64 (x : Nat), .int .i64 (q : Nat)] w fun e w' => e = .returned (.int .i64 (ivN x q : Nat)) ∧ Below w.heap.size w w' := by
 unfold ivN
 by_cases h : x = 0
 ·subst h
  exact rinv8_zero q w
 ·rw [if_neg h]
  exact rinv8_more x q w h h2 hq
def pk2 {α : Type} (b : Bool) (x y : α) : α := if b = true then x else y
theorem rpick_1 (a0 z : Int) (w : World) (hz : bits .and .i64 a0 1 = z) (h : decide (z = 1) = true) :
  Calls Tryz.prog 33 #[.int .i64 a0] w fun e w' => ∃ g, e = .returned (.agg (paC (some ⟨g, 0, none⟩) 3 3 otG)) ∧ w.heap.size ≤ g ∧ Row w' g (lksC 3 (lN otL) twoA) 98 ∧ Below w.heap.size w w' := by
 go_enter Tryz.func33, Tryz.ntmps33
 iterate 2 go_step
 refine rp ?_;refine pw_new (by rfl) 56 rfl _ zero_pa ?_;intro g2 z0 n0 r2 k;simp only [pv]
 have b2 : w.heap.size ≤ g2 := n0
 clear n0
 have sb := k_b k
 clear k;refine pw_nil ?_
 iterate 4 go_step
 refine rp ?_;refine p_m ?_;simp only [pv];refine p_v (.int .i64 z) (fun w' => (exec_bits_i .and _ _ _ _ (.inl rfl) rfl a0 1 rfl rfl w').trans (by rw [hz])) ?_;simp only [pv];refine p_v (.bool true) (exec_eql_k .i64 _ _ _ _ rfl z 1 rfl rfl true h) (pw_nil ?_);simp only [pv]
 iterate 4 go_step
 refine rp ?_;refine p_f 25 Tryz.func25 #[] (rother_any _) ?_
 rintro _ z2000 ⟨gL, rfl, nL, rL, hb⟩
 refine ⟨_, rfl, ?_⟩
 simp only [pv]
 have d2xL := l_l r2.lt nL
 have bL := Nat.le_trans sb.size nL
 clear nL
 have k := Kept.ofBelow hb
 clear hb;replace r2 := k.ro r2;replace sb := kk sb k;clear k;refine pw_put (by rfl) 56 _ _ rfl _ rfl r2 (paC (some ⟨gL, 0, none⟩) 3 3 otG) rfl (by exact size_pa) (by rfl) (pa_one _ _ _ _) ?_;clear r2;intro z2001 r2 k;simp only [Act.put];replace rL := k.ro rL;replace sb := kk sb k;clear k;refine pw_nil ?_
 go_wp2
 exact ret_rowd rfl _ rfl r2 _ Tryz.underlying56 (by exact size_pa) rfl ⟨gL, rfl, bL, rL, sb⟩
theorem rpick_0 (a0 z : Int) (w : World) (hz : bits .and .i64 a0 1 = z) (h : decide (z = 1) = false) :
  Calls Tryz.prog 33 #[.int .i64 a0] w fun e w' => ∃ g, e = .returned (.agg (paC (some ⟨g, 0, none⟩) 3 3 leG)) ∧ w.heap.size ≤ g ∧ Row w' g (lksC 3 (lN leL) twoA) 98 ∧ Below w.heap.size w w' := by
 go_enter Tryz.func33, Tryz.ntmps33
 iterate 2 go_step
 refine rp ?_;refine pw_new (by rfl) 56 rfl _ zero_pa ?_;intro g2 z0 n0 r2 k;simp only [pv]
 have b2 : w.heap.size ≤ g2 := n0
 clear n0
 have sb := k_b k
 clear k;refine pw_nil ?_
 iterate 4 go_step
 refine rp ?_;refine p_m ?_;simp only [pv];refine p_v (.int .i64 z) (fun w' => (exec_bits_i .and _ _ _ _ (.inl rfl) rfl a0 1 rfl rfl w').trans (by rw [hz])) ?_;simp only [pv];refine p_v (.bool false) (exec_eql_k .i64 _ _ _ _ rfl z 1 rfl rfl false h) (pw_nil ?_);simp only [pv]
 iterate 7 go_step
 refine rp ?_;refine p_f 24 Tryz.func24 #[] (rleast_any _) ?_
 rintro _ z3000 ⟨gL, rfl, nL, rL, hb⟩
 refine ⟨_, rfl, ?_⟩
 simp only [pv]
 have d2xL := l_l r2.lt nL
 have bL := Nat.le_trans sb.size nL
 clear nL
 have k := Kept.ofBelow hb
 clear hb;replace r2 := k.ro r2;replace sb := kk sb k;clear k;refine pw_put (by rfl) 56 _ _ rfl _ rfl r2 (paC (some ⟨gL, 0, none⟩) 3 3 leG) rfl (by exact size_pa) (by rfl) (pa_one _ _ _ _) ?_;clear r2;intro z3001 r2 k;simp only [Act.put];replace rL := k.ro rL;replace sb := kk sb k;clear k;refine pw_nil ?_
 go_wp2
 exact ret_rowd rfl _ rfl r2 _ Tryz.underlying56 (by exact size_pa) rfl ⟨gL, rfl, bL, rL, sb⟩
def pkB (a0 : Int) : Bool := decide (bits .and .i64 a0 1 = 1)
theorem rpick_any (a0 : Int) (w : World) :
  Calls Tryz.prog 33 #[.int .i64 a0] w fun e w' => ∃ g, e = .returned (.agg (paC (some ⟨g, 0, none⟩) 3 3 (pk2 (pkB a0) otG leG))) ∧ w.heap.size ≤ g ∧ Row w' g (lksC 3 (lN (pk2 (pkB a0) otL leL)) twoA) 98 ∧ Below w.heap.size w w' := by
 cases h : pkB a0 with
 | true => exact rpick_1 a0 _ w rfl h
 | false => exact rpick_0 a0 _ w rfl h
theorem pk2_gr (b : Bool) : grN 3 (lN (pk2 b otL leL)) twoA (pk2 b otG leG) = true ∧ (∀ i, i < 3 → lN (pk2 b otL leL) i < 2 ^ 256) ∧ pk2 b otG leG < 2 ^ 256 ∧ lN (pk2 b otL leL) (3 - 2) < 4611686018427387904 := by
 cases b with
 | true => exact ⟨other_is, ot_lt, by decide, by decide⟩
 | false => exact ⟨least_is, le_lt, by decide, by decide⟩
end Go.Proofs.YtgdalihjpemjiaaGreat
