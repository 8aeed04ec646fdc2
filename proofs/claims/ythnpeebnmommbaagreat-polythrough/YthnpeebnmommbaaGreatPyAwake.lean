/- What must come, whatever the arguments are: the check of the laws of layer 12; its small groups. -/
import Derived.Test.YthnpeebnmommbaaGreatPY
import Derived.Test.YthnpeebnmommbaaGreatYSame
import Derived.Test.YthnpeebnmommbaaGreatGW
import Derived.Test.YthnpeebnmommbaaGreatGAwake
namespace Go.Proofs.YthnpeebnmommbaaGreat
open Go.RowKit
set_option linter.unusedVariables false
theorem le_fd12 : FdQ 1966023127 := ⟨⟨by decide, by decide, by decide⟩, (grN_primes least_is).2⟩
def th3 (A B C i : Nat) : Nat := if i = 0 then A else if i = 1 then B else C
theorem th3_lt {A B C : Nat} (hA : A < 2 ^ 256) (hB : B < 2 ^ 256) (hC : C < 2 ^ 256) (i : Nat) : th3 A B C i < 2 ^ 256 := by
 unfold th3
 split
 ·exact hA
 ·split
  ·exact hB
  ·exact hC
theorem nsC_3 (A B C : Nat) : natC A ++ natC B ++ natC C = nsC 3 (th3 A B C) := by
 apply Array.ext'
 rw [← nsC_snoc, ← nsC_snoc, ← nsC_snoc, Array.toList_append, Array.toList_append]
 simp [nsC, th3]
theorem lit_three (A B C k : Nat) (hk : k = 4) : Instr.fill (fun i => some (i * k, k)) ((Array.range (3 * k)).map ((Value.agg #[.int .u64 0, .int .u64 0, .int .u64 0, .int .u64 0]).cells[· % (Value.agg #[.int .u64 0, .int .u64 0, .int .u64 0, .int .u64 0]).cells.size]!)) [(0, .agg (natC A)), (1, .agg (natC B)), (2, .agg (natC C))] = some (nsC 3 (th3 A B C)) := by
 subst hk
 rw [← nsC_3]
 unfold natC
 generalize lm A 0 = a0
 generalize lm A 1 = a1
 generalize lm A 2 = a2
 generalize lm A 3 = a3
 generalize lm B 0 = b0
 generalize lm B 1 = b1
 generalize lm B 2 = b2
 generalize lm B 3 = b3
 generalize lm C 0 = c0
 generalize lm C 1 = c1
 generalize lm C 2 = c2
 generalize lm C 3 = c3
 kernel_rfl
theorem same_pl {Q : Nat} [NeZero Q] (v : Value) (L : List (Fin Q)) (n ce : Nat) (ae : Option Addr) (F : Nat → Nat) (ge oe : Nat) (ecs : Array Value) (te : TypeId) (w : World) (hn : L.length = n) (hn2 : n < 9223372036854775808) (hv : PlAt w v L) (hnb : NatsAt w ae n F ge oe ecs te) (hF : ∀ i, i < n → F i = (pco L i).val) :
  Calls Tryz.prog 24 #[v, .slice ae n ce] w fun e w' => e = .returned (.bool true) ∧ Below w.heap.size w w' := by
 obtain ⟨ab, c, gb, ob, bcs, tb, rfl, hna⟩ := hv
 subst hn
 exact rsame_yes L.length c ce ab ae _ gb ob ge oe bcs ecs tb te w hn2 hna (hnb.congr hF)
set_option maxRecDepth 100000 in
set_option maxHeartbeats 2000000 in
theorem of12_any (n : Nat) (w : World) (h : (n : Int) < 9223372036854775808) :
  Calls Tryz.prog 13 #[.int .i64 n] w fun e w' => e = .returned (.agg (natC n)) ∧ Below w.heap.size w w' := by
 have hin := fun w' => rint_any (n : Int) w' h
 rw [Int.toNat_natCast] at hin
 clear h
 go_enter Tryz.func13, Tryz.ntmps13
 (repeat ((fail_if_success with_reducible refine rg ?_); go_step))
 refine wp_region_pw ?_
 refine pw_new (by rfl) 26 rfl _ zero_nat ?_
 intro g2 z0 n0 r2 k
 simp only [Act.put, pu]
 have b2 : w.heap.size ≤ g2 := n0
 clear n0
 have sb := k.below w.heap.size (Nat.le_refl _) (by simp)
 clear k
 refine pw_nil ?_
 (repeat ((fail_if_success with_reducible refine rg ?_); go_step))
 refine wp_region_pw ?_
 refine pw_mv (by rfl) rfl rfl ?_
 simp only [Act.put, pu]
 refine pw_callB (by rfl) 34 _ _ rfl Tryz.func34 (by kernel_rfl) #[.int .i64 n] rfl _ (hin _) ?_
 intro z1001 k
 simp only [Act.put, pu]
 replace r2 := k.row r2 (by simp <;> omega)
 replace sb := sb.trans (k.below w.heap.size sb.size (by simp <;> omega))
 clear k
 refine pw_put (by rfl) 26 _ _ rfl _ rfl r2 (natC n) rfl (by exact size_nat) (by simp only [natC_size]) (natC_one _) ?_
 clear r2
 intro z1002 r2 k
 simp only [Act.put]
 replace sb := sb.trans (k.below w.heap.size sb.size (by simp <;> omega))
 clear k
 refine pw_nil ?_
 go_wp2
 exact ret_row rfl _ rfl r2 4 _ Tryz.underlying26 (by exact size_nat) rfl ⟨rfl, sb⟩
set_option maxRecDepth 100000 in
set_option maxHeartbeats 2000000 in
theorem sml_core (a0 : Int) (GG PP QQ : Nat) (LK : Array Value) (w : World)
  (hpk : ∀ w', Calls Tryz.prog 25 #[.int .i64 a0] w' fun e w2 => ∃ g, e = .returned (.agg (paC (some ⟨g, 0, none⟩) 3 3 GG)) ∧ w'.heap.size ≤ g ∧ Row w2 g LK 89 ∧ Below w'.heap.size w' w2)
  (hnw : ∀ w' x, Row w' x LK 89 → Calls Tryz.prog 26 #[.agg (paC (some ⟨x, 0, none⟩) 3 3 GG)] w' fun e w2 => ∃ g gr gf, e = .returned (.tuple #[.pointer (some ⟨g, 0, none⟩), .int .i64 0]) ∧ GrpAt w2 g gr gf PP QQ GG ∧ Below w'.heap.size w' w2)
  (hrq : ∀ w' x, Row w' x LK 89 → Calls Tryz.prog 28 #[.agg (paC (some ⟨x, 0, none⟩) 3 3 GG)] w' fun e w2 => e = .returned (.agg (natC QQ)) ∧ Below w'.heap.size w' w2)
  (hlo : ∀ w', Calls Tryz.prog 27 #[.agg (natC QQ)] w' fun e w2 => e = .returned (.tuple #[.int .i64 (QQ : Nat), .bool true]) ∧ Below w'.heap.size w' w2) :
  Calls Tryz.prog 7 #[.int .i64 a0] w fun e w' => ∃ g gr gf, e = .returned (.tuple #[.pointer (some ⟨g, 0, none⟩), .int .i64 (QQ : Nat), .bool true]) ∧ GrpAt w' g gr gf (PP) (QQ) (GG) ∧ Below w.heap.size w w' := by
 go_enter Tryz.func7, Tryz.ntmps7
 have sb := sbmk w
 (repeat ((fail_if_success with_reducible refine rg ?_); go_step))
 refine wp_region_pw ?_
 refine pw_value (by rfl) (.pointer none) (fun _ => rfl) ?_
 simp only [Act.put, pu]
 refine pw_value (by rfl) (.int .i64 0) (fun _ => rfl) ?_
 simp only [Act.put, pu]
 refine pw_value (by rfl) (.bool false) (fun _ => rfl) ?_
 simp only [Act.put, pu]
 refine pw_nil ?_
 (repeat ((fail_if_success with_reducible refine rg ?_); go_step))
 refine wp_region_pw ?_
 refine pw_mv (by rfl) rfl rfl ?_
 simp only [Act.put, pu]
 refine pw_callE (by rfl) 25 _ _ rfl Tryz.func25 (by kernel_rfl) #[.int .i64 a0] rfl (hpk _) ?_
 rintro _ z1001 ⟨gL, rfl, nL, rL, hb⟩
 refine ⟨_, rfl, ?_⟩
 simp only [Act.put, pu]
 have bL := Nat.le_trans sb.size nL
 clear nL
 have k := Kept.ofBelow hb
 clear hb
 replace sb := sb.trans (k.below w.heap.size sb.size (by simp <;> omega))
 clear k
 refine pw_new (by rfl) 53 rfl _ zero_pa ?_
 intro g5 z1002 n0 r5 k
 simp only [Act.put, pu]
 have dLx5 := Nat.lt_of_lt_of_le rL.lt n0
 have b5 := Nat.le_trans sb.size n0
 clear n0
 replace rL := k.row rL (by simp <;> omega)
 replace sb := sb.trans (k.below w.heap.size sb.size (by simp <;> omega))
 clear k
 refine pw_put (by rfl) 53 _ _ rfl _ rfl r5 (paC (some ⟨gL, 0, none⟩) 3 3 GG) rfl (by exact size_pa) (by rfl) (pa_one _ _ _ _) ?_
 clear r5
 intro z1003 r5 k
 simp only [Act.put]
 replace rL := k.row rL (by simp <;> omega)
 replace sb := sb.trans (k.below w.heap.size sb.size (by simp <;> omega))
 clear k
 refine pw_nil ?_
 (repeat ((fail_if_success with_reducible refine rg ?_); go_step))
 refine wp_region_pw ?_
 refine pw_loadm (by rfl) 53 _ rfl _ 0 rfl r5.r _ (part_all _) _ Tryz.underlying53 rfl size_pa ?_
 simp only [Act.put, pu]
 refine pw_callE (by rfl) 26 _ _ rfl Tryz.func26 (by kernel_rfl) #[.agg (paC (some ⟨gL, 0, none⟩) 3 3 GG)] rfl (hnw _ gL rL) ?_
 rintro _ z2001 ⟨g, gr, gf, rfl, hg, hb⟩
 refine ⟨_, rfl, ?_⟩
 simp only [Act.put, pu]
 have k := Kept.ofBelow hb
 clear hb
 replace r5 := k.row r5 (by simp <;> omega)
 replace rL := k.row rL (by simp <;> omega)
 replace sb := sb.trans (k.below w.heap.size sb.size (by simp <;> omega))
 clear k
 refine pw_mv (by rfl) rfl rfl ?_
 refine pw_ext (by rfl) rfl rfl rfl ?_
 refine pw_ext (by rfl) rfl rfl rfl ?_
 refine pw_as (by rfl) rfl rfl ?_
 refine pw_as (by rfl) rfl rfl ?_
 simp only [Act.put, pu]
 refine pw_nil ?_
 (repeat ((fail_if_success with_reducible refine rg ?_); go_step))
 refine wp_region_pw ?_
 refine pw_loadm (by rfl) 53 _ rfl _ 0 rfl r5.r _ (part_all _) _ Tryz.underlying53 rfl size_pa ?_
 simp only [Act.put, pu]
 refine pw_callB (by rfl) 28 _ _ rfl Tryz.func28 (by kernel_rfl) #[.agg (paC (some ⟨gL, 0, none⟩) 3 3 GG)] rfl _ (hrq _ gL rL) ?_
 intro z3001 k
 simp only [Act.put, pu]
 replace r5 := k.row r5 (by simp <;> omega)
 replace rL := k.row rL (by simp <;> omega)
 replace hg := hg.below k.nil
 replace sb := sb.trans (k.below w.heap.size sb.size (by simp <;> omega))
 clear k
 refine pw_callB (by rfl) 27 _ _ rfl Tryz.func27 (by kernel_rfl) #[.agg (natC QQ)] rfl _ (hlo _) ?_
 intro z3002 k
 simp only [Act.put, pu]
 replace r5 := k.row r5 (by simp <;> omega)
 replace rL := k.row rL (by simp <;> omega)
 replace hg := hg.below k.nil
 replace sb := sb.trans (k.below w.heap.size sb.size (by simp <;> omega))
 clear k
 refine pw_mv (by rfl) rfl rfl ?_
 refine pw_ext (by rfl) rfl rfl rfl ?_
 refine pw_ext (by rfl) rfl rfl rfl ?_
 refine pw_as (by rfl) rfl rfl ?_
 refine pw_as (by rfl) rfl rfl ?_
 simp only [Act.put, pu]
 refine pw_nil ?_
 (repeat ((fail_if_success with_reducible refine rg ?_); go_step))
 refine wp_region_pw ?_
 refine pw_mv (by rfl) rfl rfl ?_
 refine pw_mv (by rfl) rfl rfl ?_
 refine pw_mv (by rfl) rfl rfl ?_
 simp only [Act.put, pu]
 refine pw_value (by rfl) (.bool true) (exec_eql_k .i64 _ _ _ _ rfl 0 0 rfl rfl true rfl) ?_
 refine pw_as (by rfl) rfl rfl ?_
 refine pw_as (by rfl) rfl rfl ?_
 refine pw_as (by rfl) rfl rfl ?_
 simp only [Act.put, pu]
 refine pw_nil ?_
 go_wp2
 go_ret3
 exact ⟨g, gr, gf, rfl, hg, sb⟩
/-- A small group's Q; its P, its G. -/
def smQ (a0 : Int) : Nat := lN (pk2 (pkB a0) otL leL) (3 - 2)
def smP (a0 : Int) : Nat := lN (pk2 (pkB a0) otL leL) (3 - 1)
def smG (a0 : Int) : Nat := pk2 (pkB a0) otG leG
theorem sm_fd (a0 : Int) : FdQ (smQ a0) ∧ smQ a0 < 4611686018427387904 := by
 obtain ⟨his, hlt, hG, hq62⟩ := pk2_gr (pkB a0)
 have pQ := (grN_primes his).2
 have hQ9 := ((grN_iff _ _ _ _).1 his).2.2.1
 unfold smQ
 exact ⟨⟨⟨by omega, isP_odd pQ (by omega), pQ.1⟩, pQ⟩, hq62⟩
theorem sml_any (a0 : Int) (w : World) :
  Calls Tryz.prog 7 #[.int .i64 a0] w fun e w' => ∃ g gr gf, e = .returned (.tuple #[.pointer (some ⟨g, 0, none⟩), .int .i64 (smQ a0 : Nat), .bool true]) ∧ GrpAt w' g gr gf (smP a0) (smQ a0) (smG a0) ∧ Below w.heap.size w w' := by
 obtain ⟨his, hlt, hG, hq62⟩ := pk2_gr (pkB a0)
 have q := (sm_fd a0).1
 have h62 := (sm_fd a0).2
 refine sml_core a0 (smG a0) (smP a0) (smQ a0) (lksC 3 (lN (pk2 (pkB a0) otL leL)) twoA) w (rpick_any a0) (fun w' x r => gnew_yes 3 3 (some ⟨x, 0, none⟩) (pk2 (pkB a0) otG leG) _ _ x 0 _ _ w' (by decide) hG (lks_links r hlt) his) (fun w' x r => rQ_any 3 3 (some ⟨x, 0, none⟩) (pk2 (pkB a0) otG leG) _ _ x 0 _ _ w' (by decide) (by decide) (lks_links r hlt)) (fun w' => ?_)
 have := rlow_any (smQ a0) w' q.m
 rw [show lowI (smQ a0) = ((smQ a0 : Nat) : Int) from if_pos (by omega), show lowB (smQ a0) = true from decide_eq_true (by omega)] at this
 exact this
theorem sm_0 : smQ 0 = 1966023127 ∧ smP 0 = 1055500680322183127 ∧ smG 0 = leG := by
 have h : pkB 0 = false := by decide
 unfold smQ smP smG
 rw [h]
 exact ⟨le_q, le_p, rfl⟩
instance : NeZero 1966023127 := ⟨by decide⟩
def sqF : List (Fin 1966023127) := [0, 0, 1]
theorem sq_th : tTh ivF (fun i => (fi (th3 0 1 2 i) : Fin 1966023127)) (fun i => (fi (th3 0 1 4 i) : Fin 1966023127)) 3 = sqF := by
 have hd : ∀ i j, i < 3 → j < 3 → i ≠ j → (fi (th3 0 1 2 i) : Fin 1966023127) ≠ fi (th3 0 1 2 j) := by
  intro i j hi hj h
  have h1 : i = 0 ∨ i = 1 ∨ i = 2 := by omega
  have h2 : j = 0 ∨ j = 1 ∨ j = 2 := by omega
  rcases h1 with rfl | rfl | rfl <;> rcases h2 with rfl | rfl | rfl <;> first | exact absurd rfl h | decide +kernel
 rw [tTh_is le_fd12.pr ivF (ivF_is le_fd12) _ _ 3 hd]
 have h := pthr_unique le_fd12.pr ivF (ivF_is le_fd12) (fun i => (fi (th3 0 1 2 i) : Fin 1966023127)) (fun i => (fi (th3 0 1 4 i) : Fin 1966023127)) 3 hd sqF (by decide) (by
  intro j hj
  have h2 : j = 0 ∨ j = 1 ∨ j = 2 := by omega
  rcases h2 with rfl | rfl | rfl <;> decide +kernel)
 rw [← h]
 decide +kernel
theorem sq_nz (k : Nat) (hk : k < 3) : pev (fi (th3 0 1 2 k)) (tGo (fun i => (fi (th3 0 1 2 i) : Fin 1966023127)) k) ≠ 0 := by
 refine tGo_nz le_fd12.pr _ _ k fun j hj => ?_
 have h1 : k = 0 ∨ k = 1 ∨ k = 2 := by omega
 rcases h1 with rfl | rfl | rfl
 ·omega
 ·obtain rfl : j = 0 := by omega
  decide +kernel
 ·have h2 : j = 0 ∨ j = 1 := by omega
  rcases h2 with rfl | rfl <;> decide +kernel
theorem inv_of1 : invZ 1 1966023127 = 1 := by
 have h := inv_1 (A := 1) le_fd12.pr (by decide)
 rw [Nat.one_mul, Nat.mod_eq_of_lt (inv_lt _ _ le_fd12.pr)] at h
 exact h
def dvB : Nat → Nat := yTm (fO 1966023127) (two2 1 1)
def dvA : Nat → Nat := yTm (fO 1966023127) (th3 1 2 1)
theorem dv_o : ∀ i, i < 2 → (yDv 1966023127 2 2 dvB 1 dvA 2).2 i = two2 1 1 i := by
 intro i hi
 have h : i = 0 ∨ i = 1 := by omega
 rcases h with rfl | rfl <;> decide +kernel
theorem dv_r : yTn (yDv 1966023127 2 2 dvB 1 dvA 2).1 3 = 0 := by decide +kernel
theorem sq_5 : (pev (fi 5) sqF).val = 25 := by decide +kernel
set_option maxRecDepth 100000 in
set_option maxHeartbeats 2000000 in
theorem awake12_any (w : World) :
  Calls Tryz.prog 6 #[] w fun e w' => e = .returned (.bool true) ∧ Below w.heap.size w w' := by
 obtain ⟨ie, hie, hz, hsz, _⟩ := info_nat'
 have h31 : ¬ 3 * ie.size > 2 ^ 24 := by rw [hsz]; decide
 have h32 : ¬ 3 * ie.size = 0 := by rw [hsz]; decide
 have h21 : ¬ 2 * ie.size > 2 ^ 24 := by rw [hsz]; decide
 have h22 : ¬ 2 * ie.size = 0 := by rw [hsz]; decide
 have hl3 := fun A B C => lit_three A B C ie.size hsz
 have hl2 := fun A B => lit_two A B ie.size hsz
 have hsm := fun w' => sml_any 0 w'
 rw [sm_0.1] at hsm
 have hth : ∀ w' g gr gf, GrpAt w' g gr gf (smP 0) 1966023127 (smG 0) → ∀ gU gV, Row w' gU (nsC 3 (th3 0 1 2)) 26 → Row w' gV (nsC 3 (th3 0 1 4)) 26 → Calls Tryz.prog 22 #[.pointer (some ⟨g, 0, none⟩), .slice (some ⟨gU, 0, none⟩) 3 3, .slice (some ⟨gV, 0, none⟩) 3 3] w' fun e w2 => ∃ vf, e = .returned (.tuple #[vf, .int .i64 0]) ∧ PlAt w2 vf sqF ∧ Below w'.heap.size w' w2 := fun w' g gr gf hg gU gV rU rV => by
  refine (thr_any g gr gf _ 1966023127 _ 3 3 3 (some ⟨gU, 0, none⟩) (some ⟨gV, 0, none⟩) (th3 0 1 2) (th3 0 1 4) gU 0 gV 0 _ _ _ _ w' le_fd12 (by decide) (nats_row rU (fun i _ => th3_lt (by decide) (by decide) (by decide) i)) (nats_row rV (fun i _ => th3_lt (by decide) (by decide) (by decide) i)) hg).mono ?_
  rintro e w2 ⟨vf, z, rfl, h | h, hb⟩
  ·obtain ⟨rfl, _, h3⟩ := h
   rw [sq_th] at h3
   exact ⟨vf, rfl, h3, hb⟩
  ·obtain ⟨_, _, k, hk, h3⟩ := h
   exact absurd h3 (sq_nz k hk)
 have hdv : ∀ w' g gr gf, GrpAt w' g gr gf (smP 0) 1966023127 (smG 0) → ∀ gU gV, Row w' gU (nsC 3 (th3 1 2 1)) 26 → Row w' gV (natC 1 ++ natC 1) 26 → Calls Tryz.prog 20 #[.pointer (some ⟨g, 0, none⟩), .slice (some ⟨gU, 0, none⟩) 3 3, .slice (some ⟨gV, 0, none⟩) 2 2] w' fun e w2 => ∃ gO gQ, e = .returned (.tuple #[.slice (some ⟨gO, 0, none⟩) 2 2, .slice (some ⟨gQ, 0, none⟩) 0 3, .int .i64 0]) ∧ Row w2 gO (nsC 2 (two2 1 1)) 26 ∧ Below w'.heap.size w' w2 := fun w' g gr gf hg gU gV rU rV => by
  refine (div_raw g gr gf _ 1966023127 _ 3 3 2 2 (some ⟨gU, 0, none⟩) (some ⟨gV, 0, none⟩) (th3 1 2 1) (two2 1 1) gU 0 gV 0 _ _ _ _ w' le_fd12 (by decide) (by decide) (nats_row rU (fun i _ => th3_lt (by decide) (by decide) (by decide) i)) (nats_two rV (by decide) (by decide)) hg 2 3 2 dvB dvA 1 rfl rfl (by decide +kernel) (by decide +kernel) rfl (by rw [show dvB (2 - 1) = 1 by decide +kernel, inv_of1]) (by decide)).mono ?_
  rintro e w2 ⟨gO, gQ, rfl, rO, rQ, hb⟩
  rw [dv_r]
  rw [nsC_congr 2 _ _ dv_o] at rO
  exact ⟨gO, gQ, rfl, rO, hb⟩
 have hev := fun w' g gr gf (hg : GrpAt w' g gr gf (smP 0) 1966023127 (smG 0)) (v : Value) (hv : PlAt w' v sqF) => evalQ v sqF 5 (by decide) le_fd12 hg (hv.arg (by decide))
 rw [sq_5] at hev
 have hs3 := fun w' (v : Value) gW (hv : PlAt w' v sqF) (r : Row w' gW (nsC 3 (th3 0 0 1)) 26) => same_pl v sqF 3 3 (some ⟨gW, 0, none⟩) (th3 0 0 1) gW 0 _ _ w' rfl (by decide) hv (nats_row r (fun i _ => th3_lt (by decide) (by decide) (by decide) i)) (fun i hi => by
  have h : i = 0 ∨ i = 1 ∨ i = 2 := by omega
  rcases h with rfl | rfl | rfl <;> decide +kernel)
 have hs2 := fun w' gO gX (r : Row w' gO (nsC 2 (two2 1 1)) 26) (r2 : Row w' gX (natC 1 ++ natC 1) 26) => rsame_yes 2 2 2 (some ⟨gO, 0, none⟩) (some ⟨gX, 0, none⟩) (two2 1 1) gO 0 gX 0 _ _ _ _ w' (by decide) (nats_row r (fun i _ => by unfold two2; split <;> decide)) (nats_two r2 (by decide) (by decide))
 have o0 := fun w' => of12_any 0 w' (by decide)
 have o1 := fun w' => of12_any 1 w' (by decide)
 have o2 := fun w' => of12_any 2 w' (by decide)
 have o4 := fun w' => of12_any 4 w' (by decide)
 have o5 := fun w' => of12_any 5 w' (by decide)
 have o25 := fun w' => of12_any 25 w' (by decide)
 clear hsz
 generalize smP 0 = PP at *
 generalize smG 0 = GG at *
 go_enter Tryz.func6, Tryz.ntmps6
 have sb := sbmk w
 (repeat ((fail_if_success with_reducible refine rg ?_); go_step))
 refine wp_region_pw ?_
 refine pw_value (by rfl) (.bool false) (fun _ => rfl) ?_
 simp only [Act.put, List.setIfInBounds_toArray, List.set_cons_zero]
 refine pw_nil ?_
 (repeat ((fail_if_success with_reducible refine rg ?_); go_step))
 refine wp_region_pw ?_
 refine pw_callE (by rfl) 7 _ _ rfl Tryz.func7 (by kernel_rfl) #[.int .i64 0] rfl (hsm _) ?_
 rintro _ z1000 ⟨g, gr, gf, rfl, hg, hb⟩
 refine ⟨_, rfl, ?_⟩
 simp only [Act.put, pu]
 have k := Kept.ofBelow hb
 clear hb
 replace sb := sb.trans (k.below w.heap.size sb.size (by simp <;> omega))
 clear k
 refine pw_mv (by rfl) rfl rfl ?_
 refine pw_ext (by rfl) rfl rfl rfl ?_
 refine pw_ext (by rfl) rfl rfl rfl ?_
 refine pw_ext (by rfl) rfl rfl rfl ?_
 refine pw_as (by rfl) rfl rfl ?_
 simp only [Act.put, pu]
 refine pw_as (by rfl) rfl rfl ?_
 refine pw_as (by rfl) rfl rfl ?_
 simp only [Act.put, pu]
 refine pw_nil ?_
 clear hsm
 (repeat ((fail_if_success with_reducible refine rg ?_); go_step))
 refine wp_region_pw ?_
 refine pw_mv (by rfl) rfl rfl ?_
 simp only [Act.put, pu]
 refine pw_callB (by rfl) 13 _ _ rfl Tryz.func13 (by kernel_rfl) #[.int .i64 0] rfl _ (o0 _) ?_
 intro z2001 k
 simp only [Act.put, pu]
 replace hg := hg.below k.nil
 replace sb := sb.trans (k.below w.heap.size sb.size (by simp <;> omega))
 clear k
 refine pw_callB (by rfl) 13 _ _ rfl Tryz.func13 (by kernel_rfl) #[.int .i64 1] rfl _ (o1 _) ?_
 intro z2002 k
 simp only [Act.put, pu]
 replace hg := hg.below k.nil
 replace sb := sb.trans (k.below w.heap.size sb.size (by simp <;> omega))
 clear k
 refine pw_callB (by rfl) 13 _ _ rfl Tryz.func13 (by kernel_rfl) #[.int .i64 2] rfl _ (o2 _) ?_
 intro z2003 k
 simp only [Act.put, pu]
 replace hg := hg.below k.nil
 replace sb := sb.trans (k.below w.heap.size sb.size (by simp <;> omega))
 clear k
 refine pw_litr (by rfl) 22 26 3 _ rfl (nsC 3 (th3 0 1 2)) ie _ Tryz.underlying22 hie hz h31 h32 [(0, .agg (natC 0)), (1, .agg (natC 1)), (2, .agg (natC 2))] rfl (hl3 0 1 2) ?_
 intro gU z2004 n0 rU k
 simp only [Act.put, pu]
 have bU := Nat.le_trans sb.size n0
 clear n0
 replace hg := hg.below k.nil
 replace sb := sb.trans (k.below w.heap.size sb.size (by simp <;> omega))
 clear k
 refine pw_callB (by rfl) 13 _ _ rfl Tryz.func13 (by kernel_rfl) #[.int .i64 0] rfl _ (o0 _) ?_
 intro z2005 k
 simp only [Act.put, pu]
 replace hg := hg.below k.nil
 replace rU := k.row rU (by simp <;> omega)
 replace sb := sb.trans (k.below w.heap.size sb.size (by simp <;> omega))
 clear k
 refine pw_callB (by rfl) 13 _ _ rfl Tryz.func13 (by kernel_rfl) #[.int .i64 1] rfl _ (o1 _) ?_
 intro z2006 k
 simp only [Act.put, pu]
 replace hg := hg.below k.nil
 replace rU := k.row rU (by simp <;> omega)
 replace sb := sb.trans (k.below w.heap.size sb.size (by simp <;> omega))
 clear k
 refine pw_callB (by rfl) 13 _ _ rfl Tryz.func13 (by kernel_rfl) #[.int .i64 4] rfl _ (o4 _) ?_
 intro z2007 k
 simp only [Act.put, pu]
 replace hg := hg.below k.nil
 replace rU := k.row rU (by simp <;> omega)
 replace sb := sb.trans (k.below w.heap.size sb.size (by simp <;> omega))
 clear k
 refine pw_litr (by rfl) 22 26 3 _ rfl (nsC 3 (th3 0 1 4)) ie _ Tryz.underlying22 hie hz h31 h32 [(0, .agg (natC 0)), (1, .agg (natC 1)), (2, .agg (natC 4))] rfl (hl3 0 1 4) ?_
 intro gV z2008 n0 rV k
 simp only [Act.put, pu]
 have dUxV := Nat.lt_of_lt_of_le rU.lt n0
 have bV := Nat.le_trans sb.size n0
 clear n0
 replace hg := hg.below k.nil
 replace rU := k.row rU (by simp <;> omega)
 replace sb := sb.trans (k.below w.heap.size sb.size (by simp <;> omega))
 clear k
 refine pw_callE (by rfl) 22 _ _ rfl Tryz.func22 (by kernel_rfl) #[.pointer (some ⟨g, 0, none⟩), .slice (some ⟨gU, 0, none⟩) 3 3, .slice (some ⟨gV, 0, none⟩) 3 3] rfl (hth _ g gr gf hg gU gV rU rV) ?_
 rintro _ z2009 ⟨vf, rfl, hf, hb⟩
 refine ⟨_, rfl, ?_⟩
 simp only [Act.put, pu]
 have k := Kept.ofBelow hb
 clear hb
 replace hg := hg.below k.nil
 replace rU := k.row rU (by simp <;> omega)
 replace rV := k.row rV (by simp <;> omega)
 replace sb := sb.trans (k.below w.heap.size sb.size (by simp <;> omega))
 clear k
 refine pw_mv (by rfl) rfl rfl ?_
 refine pw_ext (by rfl) rfl rfl rfl ?_
 refine pw_ext (by rfl) rfl rfl rfl ?_
 refine pw_as (by rfl) rfl rfl ?_
 refine pw_as (by rfl) rfl rfl ?_
 simp only [Act.put, pu]
 refine pw_nil ?_
 clear hth rU rV
 (repeat ((fail_if_success with_reducible refine rg ?_); go_step))
 refine wp_region_pw ?_
 refine pw_mv (by rfl) rfl rfl ?_
 simp only [Act.put, pu]
 refine pw_callB (by rfl) 13 _ _ rfl Tryz.func13 (by kernel_rfl) #[.int .i64 1] rfl _ (o1 _) ?_
 intro z3001 k
 simp only [Act.put, pu]
 replace hg := hg.below k.nil
 replace hf := hf.below k.nil
 replace sb := sb.trans (k.below w.heap.size sb.size (by simp <;> omega))
 clear k
 refine pw_callB (by rfl) 13 _ _ rfl Tryz.func13 (by kernel_rfl) #[.int .i64 2] rfl _ (o2 _) ?_
 intro z3002 k
 simp only [Act.put, pu]
 replace hg := hg.below k.nil
 replace hf := hf.below k.nil
 replace sb := sb.trans (k.below w.heap.size sb.size (by simp <;> omega))
 clear k
 refine pw_callB (by rfl) 13 _ _ rfl Tryz.func13 (by kernel_rfl) #[.int .i64 1] rfl _ (o1 _) ?_
 intro z3003 k
 simp only [Act.put, pu]
 replace hg := hg.below k.nil
 replace hf := hf.below k.nil
 replace sb := sb.trans (k.below w.heap.size sb.size (by simp <;> omega))
 clear k
 refine pw_litr (by rfl) 22 26 3 _ rfl (nsC 3 (th3 1 2 1)) ie _ Tryz.underlying22 hie hz h31 h32 [(0, .agg (natC 1)), (1, .agg (natC 2)), (2, .agg (natC 1))] rfl (hl3 1 2 1) ?_
 intro gU z3004 n0 rU k
 simp only [Act.put, pu]
 have bU := Nat.le_trans sb.size n0
 clear n0
 replace hg := hg.below k.nil
 replace hf := hf.below k.nil
 replace sb := sb.trans (k.below w.heap.size sb.size (by simp <;> omega))
 clear k
 refine pw_callB (by rfl) 13 _ _ rfl Tryz.func13 (by kernel_rfl) #[.int .i64 1] rfl _ (o1 _) ?_
 intro z3005 k
 simp only [Act.put, pu]
 replace hg := hg.below k.nil
 replace hf := hf.below k.nil
 replace rU := k.row rU (by simp <;> omega)
 replace sb := sb.trans (k.below w.heap.size sb.size (by simp <;> omega))
 clear k
 refine pw_callB (by rfl) 13 _ _ rfl Tryz.func13 (by kernel_rfl) #[.int .i64 1] rfl _ (o1 _) ?_
 intro z3006 k
 simp only [Act.put, pu]
 replace hg := hg.below k.nil
 replace hf := hf.below k.nil
 replace rU := k.row rU (by simp <;> omega)
 replace sb := sb.trans (k.below w.heap.size sb.size (by simp <;> omega))
 clear k
 refine pw_litr (by rfl) 22 26 2 _ rfl (natC 1 ++ natC 1) ie _ Tryz.underlying22 hie hz h21 h22 [(0, .agg (natC 1)), (1, .agg (natC 1))] rfl (hl2 1 1) ?_
 intro gV z3007 n0 rV k
 simp only [Act.put, pu]
 have dUxV := Nat.lt_of_lt_of_le rU.lt n0
 have bV := Nat.le_trans sb.size n0
 clear n0
 replace hg := hg.below k.nil
 replace hf := hf.below k.nil
 replace rU := k.row rU (by simp <;> omega)
 replace sb := sb.trans (k.below w.heap.size sb.size (by simp <;> omega))
 clear k
 refine pw_callE (by rfl) 20 _ _ rfl Tryz.func20 (by kernel_rfl) #[.pointer (some ⟨g, 0, none⟩), .slice (some ⟨gU, 0, none⟩) 3 3, .slice (some ⟨gV, 0, none⟩) 2 2] rfl (hdv _ g gr gf hg gU gV rU rV) ?_
 rintro _ z3008 ⟨gO, gQ, rfl, rO, hb⟩
 refine ⟨_, rfl, ?_⟩
 simp only [Act.put, pu]
 have k := Kept.ofBelow hb
 clear hb
 replace hg := hg.below k.nil
 replace hf := hf.below k.nil
 replace rU := k.row rU (by simp <;> omega)
 replace rV := k.row rV (by simp <;> omega)
 replace sb := sb.trans (k.below w.heap.size sb.size (by simp <;> omega))
 clear k
 refine pw_mv (by rfl) rfl rfl ?_
 refine pw_ext (by rfl) rfl rfl rfl ?_
 refine pw_ext (by rfl) rfl rfl rfl ?_
 refine pw_ext (by rfl) rfl rfl rfl ?_
 refine pw_as (by rfl) rfl rfl ?_
 simp only [Act.put, pu]
 refine pw_as (by rfl) rfl rfl ?_
 refine pw_as (by rfl) rfl rfl ?_
 simp only [Act.put, pu]
 refine pw_nil ?_
 clear hdv rU rV
 (repeat ((fail_if_success with_reducible refine rg ?_); go_step))
 refine wp_region_pw ?_
 refine pw_mv (by rfl) rfl rfl ?_
 refine pw_mv (by rfl) rfl rfl ?_
 refine pw_mv (by rfl) rfl rfl ?_
 simp only [Act.put, pu]
 refine pw_value (by rfl) (.bool true) (exec_eql_k .i64 _ _ _ _ rfl 0 0 rfl rfl true rfl) ?_
 simp only [Act.put, pu]
 refine pw_pick (by rfl) true (v := .bool true) rfl rfl rfl ?_
 refine pw_mv (by rfl) rfl rfl ?_
 refine pw_mv (by rfl) rfl rfl ?_
 simp only [Act.put, pu]
 refine pw_callB (by rfl) 13 _ _ rfl Tryz.func13 (by kernel_rfl) #[.int .i64 0] rfl _ (o0 _) ?_
 intro z4007 k
 simp only [Act.put, pu]
 replace hg := hg.below k.nil
 replace hf := hf.below k.nil
 replace rO := k.row rO (by simp <;> omega)
 replace sb := sb.trans (k.below w.heap.size sb.size (by simp <;> omega))
 clear k
 refine pw_callB (by rfl) 13 _ _ rfl Tryz.func13 (by kernel_rfl) #[.int .i64 0] rfl _ (o0 _) ?_
 intro z4008 k
 simp only [Act.put, pu]
 replace hg := hg.below k.nil
 replace hf := hf.below k.nil
 replace rO := k.row rO (by simp <;> omega)
 replace sb := sb.trans (k.below w.heap.size sb.size (by simp <;> omega))
 clear k
 refine pw_callB (by rfl) 13 _ _ rfl Tryz.func13 (by kernel_rfl) #[.int .i64 1] rfl _ (o1 _) ?_
 intro z4009 k
 simp only [Act.put, pu]
 replace hg := hg.below k.nil
 replace hf := hf.below k.nil
 replace rO := k.row rO (by simp <;> omega)
 replace sb := sb.trans (k.below w.heap.size sb.size (by simp <;> omega))
 clear k
 refine pw_litr (by rfl) 22 26 3 _ rfl (nsC 3 (th3 0 0 1)) ie _ Tryz.underlying22 hie hz h31 h32 [(0, .agg (natC 0)), (1, .agg (natC 0)), (2, .agg (natC 1))] rfl (hl3 0 0 1) ?_
 intro gW z4010 n0 rW k
 simp only [Act.put, pu]
 have dOxW := Nat.lt_of_lt_of_le rO.lt n0
 have bW := Nat.le_trans sb.size n0
 clear n0
 replace hg := hg.below k.nil
 replace hf := hf.below k.nil
 replace rO := k.row rO (by simp <;> omega)
 replace sb := sb.trans (k.below w.heap.size sb.size (by simp <;> omega))
 clear k
 refine pw_callB (by rfl) 24 _ _ rfl Tryz.func24 (by kernel_rfl) #[vf, .slice (some ⟨gW, 0, none⟩) 3 3] rfl _ (hs3 _ vf gW hf rW) ?_
 intro z4011 k
 simp only [Act.put, pu]
 replace hg := hg.below k.nil
 replace hf := hf.below k.nil
 replace rO := k.row rO (by simp <;> omega)
 replace rW := k.row rW (by simp <;> omega)
 replace sb := sb.trans (k.below w.heap.size sb.size (by simp <;> omega))
 clear k
 refine pw_pick (by rfl) true (v := .bool true) rfl rfl rfl ?_
 refine pw_mv (by rfl) rfl rfl ?_
 refine pw_mv (by rfl) rfl rfl ?_
 simp only [Act.put, pu]
 refine pw_value (by rfl) (.bool true) (exec_eql_k .i64 _ _ _ _ rfl 0 0 rfl rfl true rfl) ?_
 simp only [Act.put, pu]
 refine pw_pick (by rfl) true (v := .bool true) rfl rfl rfl ?_
 refine pw_mv (by rfl) rfl rfl ?_
 refine pw_mv (by rfl) rfl rfl ?_
 simp only [Act.put, pu]
 refine pw_callB (by rfl) 13 _ _ rfl Tryz.func13 (by kernel_rfl) #[.int .i64 1] rfl _ (o1 _) ?_
 intro z4019 k
 simp only [Act.put, pu]
 replace hg := hg.below k.nil
 replace hf := hf.below k.nil
 replace rO := k.row rO (by simp <;> omega)
 replace rW := k.row rW (by simp <;> omega)
 replace sb := sb.trans (k.below w.heap.size sb.size (by simp <;> omega))
 clear k
 refine pw_callB (by rfl) 13 _ _ rfl Tryz.func13 (by kernel_rfl) #[.int .i64 1] rfl _ (o1 _) ?_
 intro z4020 k
 simp only [Act.put, pu]
 replace hg := hg.below k.nil
 replace hf := hf.below k.nil
 replace rO := k.row rO (by simp <;> omega)
 replace rW := k.row rW (by simp <;> omega)
 replace sb := sb.trans (k.below w.heap.size sb.size (by simp <;> omega))
 clear k
 refine pw_litr (by rfl) 22 26 2 _ rfl (natC 1 ++ natC 1) ie _ Tryz.underlying22 hie hz h21 h22 [(0, .agg (natC 1)), (1, .agg (natC 1))] rfl (hl2 1 1) ?_
 intro gX z4021 n0 rX k
 simp only [Act.put, pu]
 have dOxX := Nat.lt_of_lt_of_le rO.lt n0
 have dWxX := Nat.lt_of_lt_of_le rW.lt n0
 have bX := Nat.le_trans sb.size n0
 clear n0
 replace hg := hg.below k.nil
 replace hf := hf.below k.nil
 replace rO := k.row rO (by simp <;> omega)
 replace rW := k.row rW (by simp <;> omega)
 replace sb := sb.trans (k.below w.heap.size sb.size (by simp <;> omega))
 clear k
 refine pw_callB (by rfl) 24 _ _ rfl Tryz.func24 (by kernel_rfl) #[.slice (some ⟨gO, 0, none⟩) 2 2, .slice (some ⟨gX, 0, none⟩) 2 2] rfl _ (hs2 _ gO gX rO rX) ?_
 intro z4022 k
 simp only [Act.put, pu]
 replace hg := hg.below k.nil
 replace hf := hf.below k.nil
 replace rO := k.row rO (by simp <;> omega)
 replace rW := k.row rW (by simp <;> omega)
 replace rX := k.row rX (by simp <;> omega)
 replace sb := sb.trans (k.below w.heap.size sb.size (by simp <;> omega))
 clear k
 refine pw_pick (by rfl) true (v := .bool true) rfl rfl rfl ?_
 refine pw_mv (by rfl) rfl rfl ?_
 refine pw_mv (by rfl) rfl rfl ?_
 simp only [Act.put, pu]
 refine pw_value (by rfl) (.int .i64 0) (exec_len_s 22 _ rfl (some ⟨gQ, 0, none⟩) (0) (3) rfl sl_natsX) ?_
 simp only [Act.put, pu]
 refine pw_value (by rfl) (.bool true) (exec_eql_k .i64 _ _ _ _ rfl 0 0 rfl rfl true rfl) ?_
 simp only [Act.put, pu]
 refine pw_pick (by rfl) true (v := .bool true) rfl rfl rfl ?_
 refine pw_mv (by rfl) rfl rfl ?_
 refine pw_mv (by rfl) rfl rfl ?_
 refine pw_mv (by rfl) rfl rfl ?_
 simp only [Act.put, pu]
 refine pw_callB (by rfl) 13 _ _ rfl Tryz.func13 (by kernel_rfl) #[.int .i64 5] rfl _ (o5 _) ?_
 intro z4032 k
 simp only [Act.put, pu]
 replace hg := hg.below k.nil
 replace hf := hf.below k.nil
 replace rO := k.row rO (by simp <;> omega)
 replace rW := k.row rW (by simp <;> omega)
 replace rX := k.row rX (by simp <;> omega)
 replace sb := sb.trans (k.below w.heap.size sb.size (by simp <;> omega))
 clear k
 refine pw_callB (by rfl) 12 _ _ rfl Tryz.func12 (by kernel_rfl) #[.pointer (some ⟨g, 0, none⟩), vf, .agg (natC 5)] rfl _ (hev _ g gr gf hg vf hf) ?_
 intro z4033 k
 simp only [Act.put, pu]
 replace hg := hg.below k.nil
 replace hf := hf.below k.nil
 replace rO := k.row rO (by simp <;> omega)
 replace rW := k.row rW (by simp <;> omega)
 replace rX := k.row rX (by simp <;> omega)
 replace sb := sb.trans (k.below w.heap.size sb.size (by simp <;> omega))
 clear k
 refine pw_callB (by rfl) 13 _ _ rfl Tryz.func13 (by kernel_rfl) #[.int .i64 25] rfl _ (o25 _) ?_
 intro z4034 k
 simp only [Act.put, pu]
 replace hg := hg.below k.nil
 replace hf := hf.below k.nil
 replace rO := k.row rO (by simp <;> omega)
 replace rW := k.row rW (by simp <;> omega)
 replace rX := k.row rX (by simp <;> omega)
 replace sb := sb.trans (k.below w.heap.size sb.size (by simp <;> omega))
 clear k
 refine pw_value (by rfl) (.bool true) (fun w' => (exec_eql_nat _ _ _ rfl 25 25 rfl rfl w').trans (by rw [eqn_yes])) ?_
 simp only [Act.put, pu]
 refine pw_pick (by rfl) true (v := .bool true) rfl rfl rfl ?_
 simp only [Act.put, pu]
 refine pw_as (by rfl) rfl rfl ?_
 simp only [Act.put, List.setIfInBounds_toArray, List.set_cons_zero]
 refine pw_nil ?_
 go_wp2
 go_ret
 exact ⟨rfl, sb⟩
end Go.Proofs.YthnpeebnmommbaaGreat
