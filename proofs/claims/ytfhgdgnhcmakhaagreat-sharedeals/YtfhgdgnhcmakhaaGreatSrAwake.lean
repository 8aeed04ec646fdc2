import Derived.Test.YtfhgdgnhcmakhaaGreatSB
import Derived.Test.YtfhgdgnhcmakhaaGreatSC
set_option maxRecDepth 100000
set_option maxHeartbeats 2000000
namespace Go.Proofs.YtfhgdgnhcmakhaaGreat
open Go.RowKit
set_option linter.unusedVariables false
theorem y_rest {P : Program} {o : Oper} {ρ : Operand → Value} (t : TypeId) (x lo : Operand) (ho : o.op = .slice t x (some lo) none none) (hu : P.underlying t = some (.slice (P.elem t))) (z : Nat) (hz : ∀ w, (sizeOf (P.elem t)).run P w = .ok z w) (g off n c m : Nat) (hx : ρ x = .slice (some ⟨g, off, none⟩) n c) (hh : ρ lo = .int .i64 m) (hm : m ≤ n) (hmc : m < c) (w : World) :
  (execOp ρ o).run P w = .ok (.value (.slice (some ⟨g, off + m * z, none⟩) (n - m) (c - m))) w := by
 have h1 : (Instr.sliceAt t (.slice (some ⟨g, off, none⟩) n c) (some (.int .i64 m)) none none).run P w = .ok (.slice (some ⟨g, off + m * z, none⟩) (n - m) (c - m)) w := by
  rw [run_sliceAt_slice w t _ _ _ _ hu, run_slice_l w t _ n c hu .i64 m (by omega) (by omega), hz, Result.andThen_ok, Int.toNat_natCast]
  unfold sliced
  rw [if_neg (by omega), Option.map_some]
  rw [show (⟨g, off, none⟩ : Addr).add (m * z) = ⟨g, off + m * z, none⟩ by unfold Addr.add; split <;> simp <;> omega]
 unfold execOp
 simp only [ho, hx, hh, Option.map_some, Option.map_none, Sem.run_bind, h1, Result.andThen_ok]
 rfl
theorem rsameS (n ca ce : Nat) (ab ae : Option Addr) (I : Nat → Int) (Y : Nat → Nat) (gb ob ge oe : Nat) (bcs ecs : Array Value) (tb te : TypeId) (w : World) (hn : n < 4611686018427387904) (hna : ElsAt 5 w ab n (fun k => shC (I k) (Y k)) gb ob bcs tb) (hnb : ElsAt 5 w ae n (fun k => shC (I k) (Y k)) ge oe ecs te) :
  Calls Tryz.prog 8 #[.slice ab n ca, .slice ae n ce] w fun e w' => e = .returned (.bool true) ∧ Below w.heap.size w w' := by
 have HB : Hid (ElsAt 5 w ab n (fun k => shC (I k) (Y k)) gb ob bcs tb) := hna
 have HE : Hid (ElsAt 5 w ae n (fun k => shC (I k) (Y k)) ge oe ecs te) := hnb
 clear hna hnb
 go_enter Tryz.func8, Tryz.ntmps8
 have sb := sbmk w
 iterate 2 go_step
 refine rp ?_
 refine pw_value (by rfl) (.bool false) (fun _ => rfl) ?_
 simp only [pv]
 refine pw_nil ?_
 iterate 4 go_step
 refine rp ?_
 refine pw_mv (by rfl) rfl rfl ?_
 simp only [pv]
 refine pw_value (by rfl) (.int .i64 n) (exec_len_s 27 _ rfl (ab) (n) (ca) rfl sl_shs) ?_
 refine pw_mv (by rfl) rfl rfl ?_
 simp only [pv]
 refine pw_value (by rfl) (.int .i64 n) (exec_len_s 27 _ rfl (ae) (n) (ce) rfl sl_shs) ?_
 simp only [pv]
 refine pw_value (by rfl) (.bool false) (exec_neq_k .i64 _ _ _ _ rfl n n rfl rfl false (by rw [decide_eq_true rfl]; rfl)) ?_
 simp only [pv]
 refine pw_nil ?_
 iterate 8 go_step
 refine rp ?_
 refine pw_value (by rfl) (.int .i64 0) (fun _ => rfl) ?_
 simp only [pv]
 refine pw_nil ?_
 go_wp2_with fail
 go_loopg [5] n (fun x s5 wr => ∃ i : Nat, i + x = n ∧ s5 = .int .i64 i ∧ Below w.heap.size w wr)
 case atStart => exact ⟨0, by omega, rfl, sb⟩
 case round =>
  clear sb
  obtain ⟨i, hi, rfl, sb⟩ := hrel
  cases gk with
  | zero =>
   obtain rfl : i = n := by omega
   clear hi
   iterate 2 go_step
   refine rp ?_
   refine pw_mv (by rfl) rfl rfl ?_
   refine pw_mv (by rfl) rfl rfl ?_
   simp only [pv]
   refine pw_value (by rfl) (.int .i64 i) (exec_len_s 27 _ rfl (ab) (i) (ca) rfl sl_shs) ?_
   simp only [pv]
   refine pw_value (by rfl) (.bool false) (exec_lt_b _ _ _ _ rfl i i rfl rfl false (decide_eq_false (Int.lt_irrefl _))) ?_
   simp only [pv]
   refine pw_nil ?_
   iterate 7 go_step
   refine rp ?_
   refine pw_value (by rfl) (.bool true) (fun _ => rfl) ?_
   simp only [pv]
   refine pw_nil ?_
   go_wp2
   go_ret
   exact ⟨rfl, sb⟩
  | succ x =>
   have hlt : i < n := by omega
   iterate 2 go_step
   refine rp ?_
   refine pw_mv (by rfl) rfl rfl ?_
   refine pw_mv (by rfl) rfl rfl ?_
   simp only [pv]
   refine pw_value (by rfl) (.int .i64 n) (exec_len_s 27 _ rfl (ab) (n) (ca) rfl sl_shs) ?_
   simp only [pv]
   refine pw_value (by rfl) (.bool true) (exec_lt_b _ _ _ _ rfl i n rfl rfl true (decide_eq_true (by omega))) ?_
   simp only [pv]
   refine pw_nil ?_
   obtain h0 | ⟨rfl, rB, hbt⟩ := (HB.out.below sb).at'
   ·exact absurd h0 (by omega)
   obtain h0 | ⟨rfl, rE, het⟩ := (HE.out.below sb).at'
   ·exact absurd h0 (by omega)
   have hbt' := hbt i hlt
   have het' := het i hlt
   clear hbt het
   iterate 9 go_step
   refine wp_region_qw (by kernel_rfl) (by kernel_rfl) ?_
   refine qw_move (by rfl) rfl rfl ?_
   refine qw_move (by rfl) rfl rfl ?_
   simp only [pv]
   refine qw_value (by rfl) (.pointer (some ⟨gb, ob + i * 5, none⟩)) ((exec_index_s 27 _ _ rfl gb ob (n) (ca) rfl (i) rfl (hlt) _ Tryz.underlying27 5 size_sh5)) ?_
   simp only [pv]
   refine qw_loadmR (by rfl) 43 _ rfl _ (ob + i * 5) rfl rB (shC (I i) (Y i)) hbt' _ Tryz.underlying43 rfl size_sh ?_
   refine qw_move (by rfl) rfl rfl ?_
   refine qw_move (by rfl) rfl rfl ?_
   simp only [pv]
   refine qw_value (by rfl) (.pointer (some ⟨ge, oe + i * 5, none⟩)) ((exec_index_s 27 _ _ rfl ge oe (n) (ce) rfl (i) rfl (hlt) _ Tryz.underlying27 5 size_sh5)) ?_
   simp only [pv]
   refine qw_loadmR (by rfl) 43 _ rfl _ (oe + i * 5) rfl rE (shC (I i) (Y i)) het' _ Tryz.underlying43 rfl size_sh ?_
   simp only [pv]
   refine qw_value (by rfl) (.bool false) (exec_neq_sh _ _ _ rfl (I i) (Y i) (Y i) rfl rfl false (by rw [decide_eq_true rfl]; rfl)) ?_
   simp only [pv]
   refine qw_nil ?_
   intro w6 hqb
   replace sb := below_on sb (Nat.le_refl _) hqb
   clear hqb rB rE hbt' het'
   iterate 6 go_step
   refine rp ?_
   refine pw_mv (by rfl) rfl rfl ?_
   simp only [pv]
   refine pw_value (by rfl) (.int .i64 ((i + 1 : Nat) : Int)) (exec_add_in _ _ _ _ rfl i 1 rfl rfl (by omega)) ?_
   refine pw_as (by rfl) rfl rfl ?_
   simp only [pv]
   refine pw_nil ?_
   go_wp2
   go_roundg x
   case measure => omega
   case rel => exact ⟨i + 1, by omega, rfl, sb⟩
theorem of13_any (n : Nat) (w : World) (h : (n : Int) < 9223372036854775808) :
  Calls Tryz.prog 20 #[.int .i64 n] w fun e w' => e = .returned (.agg (natC n)) ∧ Below w.heap.size w w' := by
 have hin := fun w' => rint_any (n : Int) w' h
 rw [Int.toNat_natCast] at hin
 clear h
 go_enter Tryz.func20, Tryz.ntmps20
 iterate 2 go_step
 refine rp ?_
 refine pw_new (by rfl) 38 rfl _ zero_nat ?_
 intro g2 z0 n0 r2 k
 simp only [pv]
 have b2 : w.heap.size ≤ g2 := n0
 clear n0
 have sb := k.below w.heap.size (Nat.le_refl _) (by simp)
 clear k
 refine pw_nil ?_
 iterate 3 go_step
 refine rp ?_
 refine pw_mv (by rfl) rfl rfl ?_
 simp only [pv]
 refine pw_callB (by rfl) 28 _ _ rfl Tryz.func28 (by kernel_rfl) #[.int .i64 n] rfl _ (hin _) ?_
 intro z1001 k
 simp only [pv]
 replace r2 := k.ro r2
 replace sb := kk sb k
 clear k
 refine pw_put (by rfl) 38 _ _ rfl _ rfl r2 (natC n) rfl (by exact size_nat) (by simp only [natC_size]) (natC_one _) ?_
 clear r2
 intro z1002 r2 k
 simp only [Act.put]
 replace sb := kk sb k
 clear k
 refine pw_nil ?_
 go_wp2
 exact ret_row rfl _ rfl r2 4 _ Tryz.underlying38 (by exact size_nat) rfl ⟨rfl, sb⟩
theorem sml13_core (a0 : Int) (GG PP QQ : Nat) (LK : Array Value) (w : World)
  (hpk : ∀ w', Calls Tryz.prog 23 #[.int .i64 a0] w' fun e w2 => ∃ g, e = .returned (.agg (paC (some ⟨g, 0, none⟩) 3 3 GG)) ∧ w'.heap.size ≤ g ∧ Row w2 g LK 91 ∧ Below w'.heap.size w' w2)
  (hnw : ∀ w' x, Row w' x LK 91 → Calls Tryz.prog 24 #[.agg (paC (some ⟨x, 0, none⟩) 3 3 GG)] w' fun e w2 => ∃ g gr gf, e = .returned (.tuple #[.pointer (some ⟨g, 0, none⟩), .int .i64 0]) ∧ GrpAt w2 g gr gf PP QQ GG ∧ Below w'.heap.size w' w2)
  (hrq : ∀ w' x, Row w' x LK 91 → Calls Tryz.prog 25 #[.agg (paC (some ⟨x, 0, none⟩) 3 3 GG)] w' fun e w2 => e = .returned (.agg (natC QQ)) ∧ Below w'.heap.size w' w2)
  (hlo : ∀ w', Calls Tryz.prog 12 #[.agg (natC QQ)] w' fun e w2 => e = .returned (.tuple #[.int .i64 (QQ : Nat), .bool true]) ∧ Below w'.heap.size w' w2) :
  Calls Tryz.prog 6 #[.int .i64 a0] w fun e w' => ∃ g gr gf, e = .returned (.tuple #[.pointer (some ⟨g, 0, none⟩), .int .i64 (QQ : Nat), .bool true]) ∧ GrpAt w' g gr gf (PP) (QQ) (GG) ∧ Below w.heap.size w w' := by
 go_enter Tryz.func6, Tryz.ntmps6
 have sb := sbmk w
 iterate 2 go_step
 refine rp ?_
 refine pw_value (by rfl) (.pointer none) (fun _ => rfl) ?_
 simp only [pv]
 refine pw_value (by rfl) (.int .i64 0) (fun _ => rfl) ?_
 simp only [pv]
 refine pw_value (by rfl) (.bool false) (fun _ => rfl) ?_
 simp only [pv]
 refine pw_nil ?_
 iterate 3 go_step
 refine rp ?_
 refine pw_mv (by rfl) rfl rfl ?_
 simp only [pv]
 refine pw_callE (by rfl) 23 _ _ rfl Tryz.func23 (by kernel_rfl) #[.int .i64 a0] rfl (hpk _) ?_
 rintro _ z1001 ⟨gL, rfl, nL, rL, hb⟩
 refine ⟨_, rfl, ?_⟩
 simp only [pv]
 have bL := Nat.le_trans sb.size nL
 clear nL
 have k := Kept.ofBelow hb
 clear hb
 replace sb := kk sb k
 clear k
 refine pw_new (by rfl) 59 rfl _ zero_pa ?_
 intro g5 z1002 n0 r5 k
 simp only [pv]
 have dLx5 := Nat.lt_of_lt_of_le rL.lt n0
 have b5 := Nat.le_trans sb.size n0
 clear n0
 replace rL := k.ro rL
 replace sb := kk sb k
 clear k
 refine pw_put (by rfl) 59 _ _ rfl _ rfl r5 (paC (some ⟨gL, 0, none⟩) 3 3 GG) rfl (by exact size_pa) (by rfl) (pa_one _ _ _ _) ?_
 clear r5
 intro z1003 r5 k
 simp only [Act.put]
 replace rL := k.ro rL
 replace sb := kk sb k
 clear k
 refine pw_nil ?_
 iterate 3 go_step
 refine rp ?_
 refine pw_loadm (by rfl) 59 _ rfl _ 0 rfl r5.r _ (part_all _) _ Tryz.underlying59 rfl size_pa ?_
 simp only [pv]
 refine pw_callE (by rfl) 24 _ _ rfl Tryz.func24 (by kernel_rfl) #[.agg (paC (some ⟨gL, 0, none⟩) 3 3 GG)] rfl (hnw _ gL rL) ?_
 rintro _ z2001 ⟨g, gr, gf, rfl, hg, hb⟩
 refine ⟨_, rfl, ?_⟩
 simp only [pv]
 have k := Kept.ofBelow hb
 clear hb
 replace r5 := k.ro r5
 replace rL := k.ro rL
 replace sb := kk sb k
 clear k
 refine pw_mv (by rfl) rfl rfl ?_
 refine pw_ext (by rfl) rfl rfl rfl ?_
 refine pw_ext (by rfl) rfl rfl rfl ?_
 refine pw_as (by rfl) rfl rfl ?_
 refine pw_as (by rfl) rfl rfl ?_
 simp only [pv]
 refine pw_nil ?_
 iterate 3 go_step
 refine rp ?_
 refine pw_loadm (by rfl) 59 _ rfl _ 0 rfl r5.r _ (part_all _) _ Tryz.underlying59 rfl size_pa ?_
 simp only [pv]
 refine pw_callB (by rfl) 25 _ _ rfl Tryz.func25 (by kernel_rfl) #[.agg (paC (some ⟨gL, 0, none⟩) 3 3 GG)] rfl _ (hrq _ gL rL) ?_
 intro z3001 k
 simp only [pv]
 replace r5 := k.ro r5
 replace rL := k.ro rL
 replace hg := hg.below k.nil
 replace sb := kk sb k
 clear k
 refine pw_callB (by rfl) 12 _ _ rfl Tryz.func12 (by kernel_rfl) #[.agg (natC QQ)] rfl _ (hlo _) ?_
 intro z3002 k
 simp only [pv]
 replace r5 := k.ro r5
 replace rL := k.ro rL
 replace hg := hg.below k.nil
 replace sb := kk sb k
 clear k
 refine pw_mv (by rfl) rfl rfl ?_
 refine pw_ext (by rfl) rfl rfl rfl ?_
 refine pw_ext (by rfl) rfl rfl rfl ?_
 refine pw_as (by rfl) rfl rfl ?_
 refine pw_as (by rfl) rfl rfl ?_
 simp only [pv]
 refine pw_nil ?_
 iterate 3 go_step
 refine rp ?_
 refine pw_mv (by rfl) rfl rfl ?_
 refine pw_mv (by rfl) rfl rfl ?_
 refine pw_mv (by rfl) rfl rfl ?_
 simp only [pv]
 refine pw_value (by rfl) (.bool true) (exec_eql_k .i64 _ _ _ _ rfl 0 0 rfl rfl true rfl) ?_
 refine pw_as (by rfl) rfl rfl ?_
 refine pw_as (by rfl) rfl rfl ?_
 refine pw_as (by rfl) rfl rfl ?_
 simp only [pv]
 refine pw_nil ?_
 go_wp2
 go_ret3
 exact ⟨g, gr, gf, rfl, hg, sb⟩
theorem sml13_any (a0 : Int) (w : World) :
  Calls Tryz.prog 6 #[.int .i64 a0] w fun e w' => ∃ g gr gf, e = .returned (.tuple #[.pointer (some ⟨g, 0, none⟩), .int .i64 (smQ a0 : Nat), .bool true]) ∧ GrpAt w' g gr gf (smP a0) (smQ a0) (smG a0) ∧ Below w.heap.size w w' := by
 obtain ⟨his, hlt, hG, hq62⟩ := pk2_gr (pkB a0)
 have q := (sm_fd a0).1
 have h62 := (sm_fd a0).2
 refine sml13_core a0 (smG a0) (smP a0) (smQ a0) (lksC 3 (lN (pk2 (pkB a0) otL leL)) twoA) w (rpick_any a0) (fun w' x r => gnew_yes 3 3 (some ⟨x, 0, none⟩) (pk2 (pkB a0) otG leG) _ _ x 0 _ _ w' (by decide) hG (lks_links r hlt) his) (fun w' x r => rQ_any 3 3 (some ⟨x, 0, none⟩) (pk2 (pkB a0) otG leG) _ _ x 0 _ _ w' (by decide) (by decide) (lks_links r hlt)) (fun w' => ?_)
 have := rlow_any (smQ a0) w' q.m
 rw [show lowI (smQ a0) = ((smQ a0 : Nat) : Int) from if_pos (by omega), show lowB (smQ a0) = true from decide_eq_true (by omega)] at this
 exact this
def awF : List (Fin 1966023127) := [fi 5, fi 2]
def aw7 : List (Fin 1966023127) := [fi 7]
theorem aw_v (k : Nat) (h : k < 3) : (pev (fi (k + 1)) awF).val = th3 7 9 11 k := by
 have h1 : k = 0 ∨ k = 1 ∨ k = 2 := by omega
 rcases h1 with rfl | rfl | rfl <;> decide +kernel
theorem aw_d (a : Nat) (n : Nat) (hn : a + n ≤ 10) (i j : Nat) (hi : i < n) (hj : j < n) (h : i ≠ j) : (fi (i + a) : Fin 1966023127) ≠ fi (j + a) := fun e => by
 have := fi_inj e (by omega) (by omega)
 omega
theorem aw_t1 : tTh ivF (fun i => (fi (i + 2) : Fin 1966023127)) (fun i => (fi (th3 7 9 11 (i + 1)) : Fin 1966023127)) (1 + 1) = awF := by
 rw [tTh_is le_fd12.pr ivF (ivF_is le_fd12) _ _ 2 (aw_d 2 2 (by decide))]
 have h := pthr_unique le_fd12.pr ivF (ivF_is le_fd12) (fun i => (fi (i + 2) : Fin 1966023127)) (fun i => (fi (th3 7 9 11 (i + 1)) : Fin 1966023127)) 2 (aw_d 2 2 (by decide)) awF (by decide) (by
  intro j hj
  have h2 : j = 0 ∨ j = 1 := by omega
  rcases h2 with rfl | rfl <;> decide +kernel)
 rw [← h]
 decide +kernel
theorem aw_t0 : tTh ivF (fun i => (fi (i + 1) : Fin 1966023127)) (fun i => (fi (th3 7 9 11 i) : Fin 1966023127)) (0 + 1) = aw7 := by
 rw [tTh_is le_fd12.pr ivF (ivF_is le_fd12) _ _ 1 (aw_d 1 1 (by decide))]
 have h := pthr_unique le_fd12.pr ivF (ivF_is le_fd12) (fun i => (fi (i + 1) : Fin 1966023127)) (fun i => (fi (th3 7 9 11 i) : Fin 1966023127)) 1 (aw_d 1 1 (by decide)) aw7 (by decide) (by
  intro j hj
  obtain rfl : j = 0 := by omega
  decide +kernel)
 rw [← h]
 decide +kernel
def sh3 (k : Nat) : Array Value := shC ((k + 1 : Nat) : Int) (th3 7 9 11 k)
theorem lit_sh3 (k : Nat) (hk : k = 5) : Instr.fill (fun i => some (i * k, k)) ((Array.range (3 * k)).map ((Value.agg #[.int .i64 0, .int .u64 0, .int .u64 0, .int .u64 0, .int .u64 0]).cells[· % (Value.agg #[.int .i64 0, .int .u64 0, .int .u64 0, .int .u64 0, .int .u64 0]).cells.size]!)) [(0, .agg (shC 1 7)), (1, .agg (shC 2 9)), (2, .agg (shC 3 11))] = some (esC 5 3 sh3) := by
 subst hk
 kernel_rfl
theorem aw_a2 : apB 1 (fun k => (((fun i => i + 2) k : Nat) : Int)) 2 = true := by decide
theorem aw_a3 : apB 1 (fun k => (((fun i => i + 1) k : Nat) : Int)) 3 = true := by decide
theorem aw_n2 : anB (fun k => !decide (th3 7 9 11 (k + 1) = (pev (fi (k + 2)) awF).val)) 2 = false := by decide +kernel
theorem aw_n3 : anB (fun k => !decide (th3 7 9 11 k = (pev (fi (k + 1)) aw7).val)) 3 = true := by decide +kernel
theorem awake13_any (w : World) :
  Calls Tryz.prog 5 #[] w fun e w' => e = .returned (.bool true) ∧ Below w.heap.size w w' := by
 obtain ⟨ie, hie, hz, hsz, _⟩ := info_nat'
 obtain ⟨ip, hip, hzp, hszp, _⟩ := info_shb
 have h21 : ¬ 2 * ie.size > 2 ^ 24 := by rw [hsz]; decide
 have h22 : ¬ 2 * ie.size = 0 := by rw [hsz]; decide
 have h31 : ¬ 3 * ip.size > 2 ^ 24 := by rw [hszp]; decide
 have h32 : ¬ 3 * ip.size = 0 := by rw [hszp]; decide
 have hl2 := fun A B => lit_two A B ie.size hsz
 have hl3 := lit_sh3 ip.size hszp
 have hsm := fun w' => sml13_any 0 w'
 rw [sm_0.1] at hsm
 have hde : ∀ w' g gr gf, GrpAt w' g gr gf (smP 0) 1966023127 (smG 0) → ∀ gU, Row w' gU (natC 5 ++ natC 2) 38 → Calls Tryz.prog 7 #[.pointer (some ⟨g, 0, none⟩), .slice (some ⟨gU, 0, none⟩) 2 2, .int .i64 3] w' fun e w2 => ∃ gL, e = .returned (.tuple #[.slice (some ⟨gL, 0, none⟩) 3 3, .int .i64 0]) ∧ w'.heap.size ≤ gL ∧ Row w2 gL (esC 5 3 sh3) 43 ∧ Below w'.heap.size w' w2 := fun w' g gr gf hg gU rU => by
  refine (deal_any (.slice (some ⟨gU, 0, none⟩) 2 2) awF 3 (by decide) (by decide) le_fd12 hg (lit2_pl rU (by decide) (by decide))).mono ?_
  rintro e w2 ⟨gL, rfl, h1, h2, h3⟩
  rw [esC_congr (D := sh3) (fun k hk => by show shC _ _ = shC _ _; rw [aw_v k hk])] at h2
  exact ⟨gL, rfl, h1, h2, h3⟩
 have hsc : ∀ i, (sh3 i).size = 5 := fun i => rfl
 have hsa := fun w' g1 g2 (r1 : Row w' g1 (esC 5 3 sh3) 43) (r2 : Row w' g2 (esC 5 3 sh3) 43) => rsameS 3 3 3 (some ⟨g1, 0, none⟩) (some ⟨g2, 0, none⟩) (fun k => ((k + 1 : Nat) : Int)) (th3 7 9 11) g1 0 g2 0 _ _ _ _ w' (by decide) (els_row hsc r1) (els_row hsc r2)
 have hth : ∀ k, th3 7 9 11 k < 2 ^ 256 := fun k => th3_lt (by decide) (by decide) (by decide) k
 have hr1 : ∀ w' g gr gf, GrpAt w' g gr gf (smP 0) 1966023127 (smG 0) → ∀ gL, Row w' gL (esC 5 3 sh3) 43 → Calls Tryz.prog 21 #[.pointer (some ⟨g, 0, none⟩), .int .i64 1, .slice (some ⟨gL, 0 + 1 * 5, none⟩) (3 - 1) (3 - 1)] w' fun e w2 => ∃ vf, e = .returned (.tuple #[vf, .int .i64 0]) ∧ PlAt w2 vf awF ∧ Below w'.heap.size w' w2 := fun w' g gr gf hg gL rL => by
  have := rec_yes 1 2 2 (some ⟨gL, 0 + 1 * 5, none⟩) (fun i => i + 2) (fun i => th3 7 9 11 (i + 1)) gL (0 + 1 * 5) _ _ (by decide) (by decide) (by decide) (by decide) le_fd12 (fun k hk => by show k + 2 < 1000; omega) (fun k hk => hth _) (aw_d 2 2 (by decide)) (((els_row hsc rL).drop (m := 1) (by decide)).congr (fun i hi => by show shC _ _ = shC _ _; rw [show 1 + i = i + 1 by omega])) hg aw_a2 (by rw [aw_t1]; exact aw_n2)
  rw [aw_t1] at this
  exact this
 have hr0 : ∀ w' g gr gf, GrpAt w' g gr gf (smP 0) 1966023127 (smG 0) → ∀ gL, Row w' gL (esC 5 3 sh3) 43 → Calls Tryz.prog 21 #[.pointer (some ⟨g, 0, none⟩), .int .i64 0, .slice (some ⟨gL, 0, none⟩) 3 3] w' fun e w2 => e = .returned (.tuple #[.slice none 0 0, .int .i64 4]) ∧ Below w'.heap.size w' w2 := fun w' g gr gf hg gL rL =>
  rec_bad 0 3 3 (some ⟨gL, 0, none⟩) (fun i => i + 1) (th3 7 9 11) gL 0 _ _ (by decide) (by decide) (by decide) (by decide) le_fd12 (fun k hk => by show k + 1 < 1000; omega) (fun k hk => hth _) (aw_d 1 3 (by decide)) (els_row hsc rL) hg aw_a3 (by rw [aw_t0]; exact aw_n3)
 have hs2 := fun w' (v : Value) gW (hv : PlAt w' v awF) (r : Row w' gW (natC 5 ++ natC 2) 38) => same_pl v awF 2 2 (some ⟨gW, 0, none⟩) (two2 5 2) gW 0 _ _ w' rfl (by decide) hv (nats_two r (by decide) (by decide)) (fun i hi => by
  have h : i = 0 ∨ i = 1 := by omega
  rcases h with rfl | rfl <;> decide +kernel)
 have o5 := fun w' => of13_any 5 w' (by decide)
 have o2 := fun w' => of13_any 2 w' (by decide)
 have o7 := fun w' => of13_any 7 w' (by decide)
 have o9 := fun w' => of13_any 9 w' (by decide)
 have o11 := fun w' => of13_any 11 w' (by decide)
 clear hsz hszp
 generalize smP 0 = PP at *
 generalize smG 0 = GG at *
 go_enter Tryz.func5, Tryz.ntmps5
 have sb := sbmk w
 iterate 2 go_step
 refine rp ?_
 refine pw_value (by rfl) (.bool false) (fun _ => rfl) ?_
 simp only [Act.put, List.setIfInBounds_toArray, List.set_cons_zero]
 refine pw_nil ?_
 iterate 3 go_step
 refine rp ?_
 refine pw_callE (by rfl) 6 _ _ rfl Tryz.func6 (by kernel_rfl) #[.int .i64 0] rfl (hsm _) ?_
 rintro _ z1000 ⟨g, gr, gf, rfl, hg, hb⟩
 refine ⟨_, rfl, ?_⟩
 simp only [pv]
 have k := Kept.ofBelow hb
 clear hb
 replace sb := kk sb k
 clear k
 refine pw_mv (by rfl) rfl rfl ?_
 refine pw_ext (by rfl) rfl rfl rfl ?_
 refine pw_ext (by rfl) rfl rfl rfl ?_
 refine pw_ext (by rfl) rfl rfl rfl ?_
 refine pw_as (by rfl) rfl rfl ?_
 simp only [pv]
 refine pw_as (by rfl) rfl rfl ?_
 refine pw_as (by rfl) rfl rfl ?_
 simp only [pv]
 refine pw_nil ?_
 clear hsm
 iterate 3 go_step
 refine rp ?_
 refine pw_mv (by rfl) rfl rfl ?_
 simp only [pv]
 refine pw_callB (by rfl) 20 _ _ rfl Tryz.func20 (by kernel_rfl) #[.int .i64 5] rfl _ (o5 _) ?_
 intro z2001 k
 simp only [pv]
 replace hg := hg.below k.nil
 replace sb := kk sb k
 clear k
 refine pw_callB (by rfl) 20 _ _ rfl Tryz.func20 (by kernel_rfl) #[.int .i64 2] rfl _ (o2 _) ?_
 intro z2002 k
 simp only [pv]
 replace hg := hg.below k.nil
 replace sb := kk sb k
 clear k
 refine pw_litr (by rfl) 22 38 2 _ rfl (natC 5 ++ natC 2) ie _ Tryz.underlying22 hie hz h21 h22 [(0, .agg (natC 5)), (1, .agg (natC 2))] rfl (hl2 5 2) ?_
 intro gU z2003 n0 rU k
 simp only [pv]
 have bU := Nat.le_trans sb.size n0
 clear n0
 replace hg := hg.below k.nil
 replace sb := kk sb k
 clear k
 refine pw_callE (by rfl) 7 _ _ rfl Tryz.func7 (by kernel_rfl) #[.pointer (some ⟨g, 0, none⟩), .slice (some ⟨gU, 0, none⟩) 2 2, .int .i64 3] rfl (hde _ g gr gf hg gU rU) ?_
 rintro _ z2004 ⟨gL, rfl, nL, rL, hb⟩
 refine ⟨_, rfl, ?_⟩
 simp only [pv]
 have dUxL := Nat.lt_of_lt_of_le rU.lt nL
 have bL := Nat.le_trans sb.size nL
 clear nL
 have k := Kept.ofBelow hb
 clear hb
 replace hg := hg.below k.nil
 replace rU := k.ro rU
 replace sb := kk sb k
 clear k
 refine pw_mv (by rfl) rfl rfl ?_
 refine pw_ext (by rfl) rfl rfl rfl ?_
 refine pw_ext (by rfl) rfl rfl rfl ?_
 refine pw_as (by rfl) rfl rfl ?_
 refine pw_as (by rfl) rfl rfl ?_
 simp only [pv]
 refine pw_nil ?_
 clear hde rU
 iterate 4 go_step
 refine rp ?_
 refine pw_mv (by rfl) rfl rfl ?_
 simp only [pv]
 refine pw_value (by rfl) (.bool false) (exec_not _ _ rfl true rfl) ?_
 refine pw_mv (by rfl) rfl rfl ?_
 refine pw_mv (by rfl) rfl rfl ?_
 simp only [pv]
 refine pw_value (by rfl) (.bool false) (exec_neq_k .i64 _ _ _ _ rfl 0 0 rfl rfl false rfl) ?_
 simp only [pv]
 refine pw_pick (by rfl) false (v := .bool false) rfl rfl rfl ?_
 refine pw_mv (by rfl) rfl rfl ?_
 refine pw_mv (by rfl) rfl rfl ?_
 simp only [pv]
 refine pw_callB (by rfl) 20 _ _ rfl Tryz.func20 (by kernel_rfl) #[.int .i64 7] rfl _ (o7 _) ?_
 intro z3008 k
 simp only [pv]
 replace hg := hg.below k.nil
 replace rL := k.ro rL
 replace sb := kk sb k
 clear k
 refine pw_value (by rfl) (.agg (shC 1 7)) (exec_buildv _ [(0, .const (.int .i64 1)), (1, .tmp 31)] rfl [(0, .int .i64 1), (1, .agg (natC 7))] rfl (shC 1 7) (built_sh _ _)) ?_
 simp only [pv]
 refine pw_callB (by rfl) 20 _ _ rfl Tryz.func20 (by kernel_rfl) #[.int .i64 9] rfl _ (o9 _) ?_
 intro z3010 k
 simp only [pv]
 replace hg := hg.below k.nil
 replace rL := k.ro rL
 replace sb := kk sb k
 clear k
 refine pw_value (by rfl) (.agg (shC 2 9)) (exec_buildv _ [(0, .const (.int .i64 2)), (1, .tmp 33)] rfl [(0, .int .i64 2), (1, .agg (natC 9))] rfl (shC 2 9) (built_sh _ _)) ?_
 simp only [pv]
 refine pw_callB (by rfl) 20 _ _ rfl Tryz.func20 (by kernel_rfl) #[.int .i64 11] rfl _ (o11 _) ?_
 intro z3012 k
 simp only [pv]
 replace hg := hg.below k.nil
 replace rL := k.ro rL
 replace sb := kk sb k
 clear k
 refine pw_value (by rfl) (.agg (shC 3 11)) (exec_buildv _ [(0, .const (.int .i64 3)), (1, .tmp 35)] rfl [(0, .int .i64 3), (1, .agg (natC 11))] rfl (shC 3 11) (built_sh _ _)) ?_
 simp only [pv]
 refine pw_litr (by rfl) 27 43 3 _ rfl (esC 5 3 sh3) ip _ Tryz.underlying27 hip hzp h31 h32 [(0, .agg (shC 1 7)), (1, .agg (shC 2 9)), (2, .agg (shC 3 11))] rfl hl3 ?_
 intro gV z3014 n0 rV k
 simp only [pv]
 have dLxV := Nat.lt_of_lt_of_le rL.lt n0
 have bV := Nat.le_trans sb.size n0
 clear n0
 replace hg := hg.below k.nil
 replace rL := k.ro rL
 replace sb := kk sb k
 clear k
 refine pw_callB (by rfl) 8 _ _ rfl Tryz.func8 (by kernel_rfl) #[.slice (some ⟨gL, 0, none⟩) 3 3, .slice (some ⟨gV, 0, none⟩) 3 3] rfl _ (hsa _ gL gV rL rV) ?_
 intro z3015 k
 simp only [pv]
 replace hg := hg.below k.nil
 replace rL := k.ro rL
 replace rV := k.ro rV
 replace sb := kk sb k
 clear k
 refine pw_value (by rfl) (.bool false) (exec_not _ _ rfl true rfl) ?_
 simp only [pv]
 refine pw_pick (by rfl) false (v := .bool false) rfl rfl rfl ?_
 simp only [pv]
 refine pw_nil ?_
 clear rV hsa hl3
 iterate 7 go_step
 refine rp ?_
 refine pw_mv (by rfl) rfl rfl ?_
 refine pw_mv (by rfl) rfl rfl ?_
 simp only [pv]
 refine pw_value (by rfl) (.slice (some ⟨gL, 0 + 1 * 5, none⟩) (3 - 1) (3 - 1)) (y_rest _ _ _ rfl sl_shs 5 size_els gL 0 3 3 1 rfl rfl (by decide) (by decide)) ?_
 simp only [pv]
 refine pw_callE (by rfl) 21 _ _ rfl Tryz.func21 (by kernel_rfl) #[.pointer (some ⟨g, 0, none⟩), .int .i64 1, .slice (some ⟨gL, 0 + 1 * 5, none⟩) (3 - 1) (3 - 1)] rfl (hr1 _ g gr gf hg gL rL) ?_
 rintro _ z5003 ⟨vf, rfl, hf, hb⟩
 refine ⟨_, rfl, ?_⟩
 simp only [pv]
 have k := Kept.ofBelow hb
 clear hb
 replace hg := hg.below k.nil
 replace rL := k.ro rL
 replace sb := kk sb k
 clear k
 refine pw_mv (by rfl) rfl rfl ?_
 refine pw_ext (by rfl) rfl rfl rfl ?_
 refine pw_ext (by rfl) rfl rfl rfl ?_
 refine pw_as (by rfl) rfl rfl ?_
 refine pw_as (by rfl) rfl rfl ?_
 simp only [pv]
 refine pw_nil ?_
 clear hr1
 iterate 3 go_step
 refine rp ?_
 refine pw_mv (by rfl) rfl rfl ?_
 refine pw_mv (by rfl) rfl rfl ?_
 simp only [pv]
 refine pw_callB (by rfl) 21 _ _ rfl Tryz.func21 (by kernel_rfl) #[.pointer (some ⟨g, 0, none⟩), .int .i64 0, .slice (some ⟨gL, 0, none⟩) 3 3] rfl _ (hr0 _ g gr gf hg gL rL) ?_
 intro z6002 k
 simp only [pv]
 replace hg := hg.below k.nil
 replace rL := k.ro rL
 replace hf := hf.below k.nil
 replace sb := kk sb k
 clear k
 refine pw_mv (by rfl) rfl rfl ?_
 refine pw_ext (by rfl) rfl rfl rfl ?_
 refine pw_ext (by rfl) rfl rfl rfl ?_
 refine pw_as (by rfl) rfl rfl ?_
 refine pw_as (by rfl) rfl rfl ?_
 simp only [pv]
 refine pw_nil ?_
 clear hr0
 iterate 3 go_step
 refine rp ?_
 refine pw_mv (by rfl) rfl rfl ?_
 simp only [pv]
 refine pw_callB (by rfl) 20 _ _ rfl Tryz.func20 (by kernel_rfl) #[.int .i64 5] rfl _ (o5 _) ?_
 intro z7001 k
 simp only [pv]
 replace hf := hf.below k.nil
 replace sb := kk sb k
 clear k
 refine pw_callB (by rfl) 20 _ _ rfl Tryz.func20 (by kernel_rfl) #[.int .i64 2] rfl _ (o2 _) ?_
 intro z7002 k
 simp only [pv]
 replace hf := hf.below k.nil
 replace sb := kk sb k
 clear k
 refine pw_litr (by rfl) 22 38 2 _ rfl (natC 5 ++ natC 2) ie _ Tryz.underlying22 hie hz h21 h22 [(0, .agg (natC 5)), (1, .agg (natC 2))] rfl (hl2 5 2) ?_
 intro gW z7003 n0 rW k
 simp only [pv]
 have bW := Nat.le_trans sb.size n0
 clear n0
 replace hf := hf.below k.nil
 replace sb := kk sb k
 clear k
 refine pw_callB (by rfl) 22 _ _ rfl Tryz.func22 (by kernel_rfl) #[vf, .slice (some ⟨gW, 0, none⟩) 2 2] rfl _ (hs2 _ vf gW hf rW) ?_
 intro z7004 k
 simp only [pv]
 replace hf := hf.below k.nil
 replace rW := k.ro rW
 replace sb := kk sb k
 clear k
 refine pw_mv (by rfl) rfl rfl ?_
 refine pw_mv (by rfl) rfl rfl ?_
 simp only [pv]
 refine pw_value (by rfl) (.bool true) (exec_eql_k .i64 _ _ _ _ rfl 0 0 rfl rfl true rfl) ?_
 simp only [pv]
 refine pw_pick (by rfl) true (v := .bool true) rfl rfl rfl ?_
 refine pw_mv (by rfl) rfl rfl ?_
 refine pw_mv (by rfl) rfl rfl ?_
 simp only [pv]
 refine pw_value (by rfl) (.bool true) (exec_eql_k .i64 _ _ _ _ rfl 4 4 rfl rfl true rfl) ?_
 simp only [pv]
 refine pw_pick (by rfl) true (v := .bool true) rfl rfl rfl ?_
 simp only [pv]
 refine pw_as (by rfl) rfl rfl ?_
 simp only [Act.put, List.setIfInBounds_toArray, List.set_cons_zero]
 refine pw_nil ?_
 go_wp2
 go_ret
 exact ⟨rfl, sb⟩
end Go.Proofs.YtfhgdgnhcmakhaaGreat
