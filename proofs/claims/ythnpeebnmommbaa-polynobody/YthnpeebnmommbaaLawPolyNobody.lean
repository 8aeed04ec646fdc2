/- PolyNobody: for every list of naturals and every natural: without a group nothing is told, and nothing fails; 33 places are too many, 32 are not; no condition. -/
import Derived.Test.YthnpeebnmommbaaPyAwake
import Derived.Test.YthnpeebnmommbaaGU
import Derived.Test.YthnpeebnmommbaaTA
namespace Go.Proofs.Ythnpeebnmommbaa
open Go.ChangeShapes Go.WideShapes Go.ChangeAt Go.RowKit
namespace polyNobodyP
set_option linter.unusedVariables false
theorem sl_grp : Try.prog.underlying 50 = some (.slice (Try.prog.elem 50)) := by kernel_rfl
theorem info_pgx : (Try.prog.info? 25).map (fun i => (i.zero, i.size)) = some (some (.pointer none), 1) := by kernel_rfl
theorem info_pg : ∃ i, Try.prog.info? 25 = some i ∧ i.zero = some (.pointer none) ∧ i.size = 1 := by
 cases hi : Try.prog.info? 25 with
 | none => have := info_pgx; rw [hi] at this; cases this
 | some i =>
  have h := info_pgx
  rw [hi] at h
  simp only [Option.map_some, Option.some.injEq, Prod.mk.injEq] at h
  exact ⟨i, rfl, h.1, h.2⟩
theorem lit_pg (v : Option Addr) (k : Nat) (hk : k = 1) : Instr.fill (fun i => some (i * k, k)) ((Array.range (2 * k)).map ((Value.pointer none).cells[· % (Value.pointer none).cells.size]!)) [(0, .pointer none), (1, .pointer v)] = some #[.pointer none, .pointer v] := by
 subst hk
 kernel_rfl
/-- The one of the two. -/
def vOf (g : Nat) (i : Nat) : Option Addr := if i = 0 then none else some ⟨g, 0, none⟩
theorem v_at (g i : Nat) (hi : i < 2) : (#[.pointer none, .pointer (some ⟨g, 0, none⟩)] : Array Value)[0 + i * 1]? = some (.pointer (vOf g i)) := by
 match i, hi with
 | 0, _ => rfl
 | 1, _ => rfl
theorem v_no {w : World} {g : Nat} (i : Nat) (h : Row w g (gpC 0 0 0 none none) 49) : NoG w (vOf g i) := by
 unfold vOf
 split
 ·exact .inl ⟨rfl, rfl, rfl, rfl, rfl, rfl⟩
 ·exact .inr ⟨g, rfl, h⟩
theorem neq_no12 : (!decide ((0 : Nat) % 2 ^ 256 = 0 % 2 ^ 256)) = false := by rw [decide_eq_true rfl]; rfl
theorem ownN_slice {w : World} {base : Nat} {v : Value} {n : Nat} {f : Nat → Nat} (h : OwnN w base v n f) (hn : 0 < n) (hf : ∀ i, i < n → f i < 2 ^ 256) : ∃ ab c gb cur, v = .slice ab n c ∧ n ≤ c ∧ NatsAt w ab n f gb 0 cur 32 := by
 have h0 := h
 obtain ⟨_, h1 | ⟨g, cap, cur, rfl, _, _, hc, _⟩⟩ := h
 ·omega
 ·obtain ⟨_, gb, cur2, h2⟩ := ownN_nats h0 hf
  exact ⟨_, cap, gb, cur2, rfl, hc, h2⟩
set_option maxRecDepth 100000 in
set_option maxHeartbeats 2000000 in
theorem core0 (n c x : Nat) (ab : Option Addr) (w : World) (h : 8 < n) :
  Calls Try.prog 4 #[.slice ab n c, .agg (natC x)] w fun e w' => e = .returned (.bool true) ∧ Below w.heap.size w w' := by
 have haw := awake12_any
 go_enter Try.func4, Try.ntmps4
 (repeat ((fail_if_success with_reducible refine rg ?_); go_step))
 refine wp_region_pw ?_
 refine pw_boxr (by rfl) 32 _ rfl (_) rfl ?_
 intro g3 z0 n0 r3 k
 simp only [Act.put, pu]
 have b3 : w.heap.size ≤ g3 := n0
 clear n0
 have sb := k.below w.heap.size (Nat.le_refl _) (by simp)
 clear k
 refine pw_value (by rfl) (.bool false) (fun _ => rfl) ?_
 simp only [Act.put, pu]
 refine pw_nil ?_
 (repeat ((fail_if_success with_reducible refine rg ?_); go_step))
 refine wp_region_pw ?_
 refine pw_mv (by rfl) rfl rfl ?_
 simp only [Act.put, pu]
 refine pw_value (by rfl) (.int .i64 n) (exec_len_s 22 _ rfl (ab) (n) (c) rfl sl_natsX) ?_
 simp only [Act.put, pu]
 refine pw_value (by rfl) (.bool true) (exec_gt_i _ _ _ _ rfl n 8 rfl rfl true (decide_eq_true (by omega))) ?_
 simp only [Act.put, pu]
 refine pw_nil ?_
 (repeat ((fail_if_success with_reducible refine rg ?_); go_step))
 refine wp_region_pw ?_
 refine pw_callB (by rfl) 5 _ _ rfl Try.func5 (by kernel_rfl) #[] rfl _ (haw _) ?_
 intro z2000 k
 simp only [Act.put, pu]
 replace r3 := k.row r3 (by simp <;> omega)
 replace sb := sb.trans (k.below w.heap.size sb.size (by simp <;> omega))
 clear k
 refine pw_as (by rfl) rfl rfl ?_
 simp only [Act.put, pu]
 refine pw_nil ?_
 go_wp2
 go_ret
 exact ⟨rfl, sb⟩
set_option maxRecDepth 100000 in
set_option maxHeartbeats 2000000 in
theorem core1 (n c x : Nat) (ab : Option Addr) (F : Nat → Nat) (gb ob : Nat) (bcs : Array Value) (tb : TypeId) (w : World) (hn : n ≤ 8) (hx : x < 2 ^ 256) (hna : NatsAt w ab n F gb ob bcs tb) :
  Calls Try.prog 4 #[.slice ab n c, .agg (natC x)] w fun e w' => e = .returned (.bool true) ∧ Below w.heap.size w w' := by
 have haw := awake12_any
 have hsm := fun w' => sml_any 0 w'
 rw [sm_0.1] at hsm
 obtain ⟨ip, hip, hzp, hsz0⟩ := info_pg
 have hp1 : ¬ 2 * ip.size > 2 ^ 24 := by rw [hsz0]; decide
 have hp2 : ¬ 2 * ip.size = 0 := by rw [hsz0]; decide
 have hl := fun v => lit_pg v ip.size hsz0
 obtain ⟨ie, hie, hz, hsz, _⟩ := info_nat'
 have hs1 : ¬ 1 * ie.size > 2 ^ 24 := by rw [hsz]; decide
 have hs2 : ¬ 1 * ie.size = 0 := by rw [hsz]; decide
 have hl1 := fun A => lit_one A ie.size hsz
 have hta : ∀ {v : Option Addr} w', NoG w' v → NatsAt w' ab n F gb ob bcs tb → Calls Try.prog 16 #[.pointer v, .slice ab n c] w' fun e w2 => ∃ g, e = .returned (.slice (some ⟨g, 0, none⟩) 0 n) ∧ Below w'.heap.size w' w2 := fun {v} w' h1 h2 => by
  have := trim_any v ab n c F nO gb ob bcs tb w' (by omega) h2 h1.fa
  rw [nO_tm] at this
  exact this.mono fun e w2 ⟨g, h3, _, _, h4⟩ => ⟨g, h3, h4⟩
 have hpa : ∀ {v : Option Addr} w', NoG w' v → NatsAt w' ab n F gb ob bcs tb → Calls Try.prog 13 #[.pointer v, .slice ab n c, .slice ab n c] w' fun e w2 => ∃ g, e = .returned (.slice (some ⟨g, 0, none⟩) 0 (max n n)) ∧ Below w'.heap.size w' w2 := fun {v} w' h1 h2 => by
  have := padd_any v ab ab n c n c F F nO gb ob gb ob bcs bcs tb tb w' (by omega) (by omega) h2 h2 h1.fa
  rw [nO_sm] at this
  exact this.mono fun e w2 ⟨g, h3, _, _, h4⟩ => ⟨g, h3, h4⟩
 have hpm : ∀ {v : Option Addr} w', NoG w' v → NatsAt w' ab n F gb ob bcs tb → Calls Try.prog 14 #[.pointer v, .slice ab n c, .slice ab n c] w' fun e w2 => ∃ g cx, e = .returned (.slice (some ⟨g, 0, none⟩) 0 cx) ∧ Below w'.heap.size w' w2 := fun {v} w' h1 h2 => by
  have := pmul_any v ab ab n c n c F F nO gb ob gb ob bcs bcs tb tb w' (by omega) (by omega) h2 h2 h1.fa
  rw [nO_ml] at this
  exact this.mono fun e w2 ⟨g, h3, _, _, h4⟩ => ⟨g, _, h3, h4⟩
 have hev : ∀ {v : Option Addr} w', NoG w' v → NatsAt w' ab n F gb ob bcs tb → Calls Try.prog 11 #[.pointer v, .slice ab n c, .agg (natC x)] w' fun e w2 => e = .returned (.agg (natC 0)) ∧ Below w'.heap.size w' w2 := fun {v} w' h1 h2 => by
  have := peval_any v ab n c x F nO gb ob bcs tb w' (by omega) hx h2 h1.fa
  rw [nO_hv] at this
  exact this
 have hdv : ∀ {v : Option Addr} w', NoG w' v → NatsAt w' ab n F gb ob bcs tb → _ := fun {v} w' h1 h2 => div_none v ab ab n c n c F nO gb ob bcs tb w' (by omega) h2 h1.fa (nO_tm F n)
 have hth : ∀ {v : Option Addr} w', NoG w' v → _ := fun {v} w' h1 => thr_nog v ab ab n c n c w' h1
 have hmy : ∀ w' g gr gf, GrpAt w' g gr gf (smP 0) 1966023127 (smG 0) → ∀ ae ce, _ := fun w' g gr gf hg ae ce => thr_many g gr gf _ _ _ ae ae 33 ce ce w' (by decide) hg
 have hok : ∀ w' g gr gf, GrpAt w' g gr gf (smP 0) 1966023127 (smG 0) → ∀ ae ce ge cur, NatsAt w' ae 33 (fun i => i) ge 0 cur 32 → Calls Try.prog 12 #[.pointer (some ⟨g, 0, none⟩), .slice ae 32 ce, .slice ae 32 ce] w' fun e w2 => ∃ vf, e = .returned (.tuple #[vf, .int .i64 0]) ∧ Below w'.heap.size w' w2 := fun w' g gr gf hg ae ce ge cur hm => by
  have hm := hm.take (m := 32) (by decide)
  refine (thr_any g gr gf _ 1966023127 _ 32 ce ce ae ae (fun i => i) (fun i => i) ge 0 ge 0 cur cur _ _ w' le_fd12 (by decide) hm hm hg).mono ?_
  rintro e w2 ⟨vf, z, rfl, h | h, hb⟩
  ·obtain ⟨rfl, _, _⟩ := h
   exact ⟨vf, rfl, hb⟩
  ·obtain ⟨_, _, k, hk, h3⟩ := h
   exact absurd h3 (tGo_nz le_fd12.pr _ _ k fun j hj e => by
    have := fi_inj e (by omega) (by omega)
    omega)
 have o12 := fun (k : Nat) w' (h : k < 100) => of12_any k w' (by omega)
 clear hx hsz hsz0
 generalize smP 0 = PP at *
 generalize smG 0 = GG at *
 go_enter Try.func4, Try.ntmps4
 (repeat ((fail_if_success with_reducible refine rg ?_); go_step))
 refine wp_region_pw ?_
 refine pw_boxr (by rfl) 32 _ rfl (_) rfl ?_
 intro g3 z0 n0 r3 k
 simp only [Act.put, pu]
 have b3 : w.heap.size ≤ g3 := n0
 clear n0
 replace hna := hna.below k.nil
 have sb := k.below w.heap.size (Nat.le_refl _) (by simp)
 clear k
 refine pw_value (by rfl) (.bool false) (fun _ => rfl) ?_
 simp only [Act.put, pu]
 refine pw_nil ?_
 (repeat ((fail_if_success with_reducible refine rg ?_); go_step))
 refine wp_region_pw ?_
 refine pw_mv (by rfl) rfl rfl ?_
 simp only [Act.put, pu]
 refine pw_value (by rfl) (.int .i64 n) (exec_len_s 22 _ rfl (ab) (n) (c) rfl sl_natsX) ?_
 simp only [Act.put, pu]
 refine pw_value (by rfl) (.bool false) (exec_gt_i _ _ _ _ rfl n 8 rfl rfl false (decide_eq_false (by omega))) ?_
 simp only [Act.put, pu]
 refine pw_nil ?_
 (repeat ((fail_if_success with_reducible refine rg ?_); go_step))
 refine wp_region_pw ?_
 refine pw_value (by rfl) (.agg (gpC 0 0 0 none none)) (exec_build0 _ rfl _ built_gp0) ?_
 simp only [Act.put, pu]
 refine pw_boxr (by rfl) 49 _ rfl (_) rfl ?_
 intro g26 z3001 n0 r26 k
 simp only [Act.put, pu]
 have d3x26 := Nat.lt_of_lt_of_le r3.lt n0
 have b26 := Nat.le_trans sb.size n0
 clear n0
 replace r3 := k.row r3 (by simp <;> omega)
 replace hna := hna.below k.nil
 replace sb := sb.trans (k.below w.heap.size sb.size (by simp <;> omega))
 clear k
 refine pw_litr (by rfl) 50 25 2 _ rfl #[.pointer none, .pointer (some ⟨g26, 0, none⟩)] ip _ Try.underlying50 hip hzp hp1 hp2 [(0, .pointer none), (1, .pointer (some ⟨g26, 0, none⟩))] rfl (hl _) ?_
 intro gT z3002 n0 rT k
 simp only [Act.put, pu]
 have d3xT := Nat.lt_of_lt_of_le r3.lt n0
 have d26xT := Nat.lt_of_lt_of_le r26.lt n0
 have bT := Nat.le_trans sb.size n0
 clear n0
 replace r3 := k.row r3 (by simp <;> omega)
 replace hna := hna.below k.nil
 replace r26 := k.row r26 (by simp <;> omega)
 replace sb := sb.trans (k.below w.heap.size sb.size (by simp <;> omega))
 clear k
 refine pw_as (by rfl) rfl rfl ?_
 simp only [Act.put, pu]
 refine pw_nil ?_
 clear hl hp1 hp2 hzp hip
 (repeat ((fail_if_success with_reducible refine rg ?_); go_step))
 refine wp_region_pw ?_
 refine pw_value (by rfl) (.int .i64 0) (fun _ => rfl) ?_
 simp only [Act.put, pu]
 refine pw_nil ?_
 go_wp2_with fail
 go_loopg [6, 7, 8, 9, 10, 11] 2 (fun y s6 s7 s8 s9 s10 s11 wr => ∃ i : Nat, i + y = 2 ∧ s6 = .int .i64 i ∧ Row wr g3 (natC x) 32 ∧ Row wr g26 (gpC 0 0 0 none none) 49 ∧ Row wr gT #[.pointer none, .pointer (some ⟨g26, 0, none⟩)] 25 ∧ NatsAt wr ab n F gb ob bcs tb ∧ Below w.heap.size w wr)
 case atStart => exact ⟨0, by omega, rfl, r3, r26, rT, hna, sb⟩
 case round =>
  clear r3 r26 rT hna sb
  obtain ⟨i, hi, rfl, r3, r26, rT, hna, sb⟩ := hrel
  cases gk with
  | zero =>
   obtain rfl : i = 2 := by omega
   clear hi hta hpa hpm hev hdv hth
   (repeat ((fail_if_success with_reducible refine rg ?_); go_step))
   refine wp_region_pw ?_
   refine pw_mv (by rfl) rfl rfl ?_
   simp only [Act.put, pu]
   refine pw_mv (by rfl) rfl rfl ?_
   simp only [Act.put, pu]
   refine pw_value (by rfl) (.int .i64 2) (exec_len_s 50 _ rfl (some ⟨gT, 0, none⟩) 2 2 rfl sl_grp) ?_
   simp only [Act.put, pu]
   refine pw_value (by rfl) (.bool false) (exec_lt_b _ _ _ _ rfl ((2 : Nat) : Int) 2 rfl rfl false rfl) ?_
   simp only [Act.put, pu]
   refine pw_nil ?_
   (repeat ((fail_if_success with_reducible refine rg ?_); go_step))
   refine wp_region_pw ?_
   refine pw_callE (by rfl) 18 _ _ rfl Try.func18 (by kernel_rfl) #[.int .i64 0] rfl (hsm _) ?_
   rintro _ z11000 ⟨g, gr, gf, rfl, hg, hb⟩
   refine ⟨_, rfl, ?_⟩
   simp only [Act.put, pu]
   have k := Kept.ofBelow hb
   clear hb
   replace sb := sb.trans (k.below w.heap.size sb.size (by simp <;> omega))
   clear k
   refine pw_mv (by rfl) rfl rfl ?_
   simp only [Act.put, pu]
   refine pw_ext (by rfl) rfl rfl rfl ?_
   simp only [Act.put, pu]
   refine pw_ext (by rfl) rfl rfl rfl ?_
   simp only [Act.put, pu]
   refine pw_ext (by rfl) rfl rfl rfl ?_
   simp only [Act.put, pu]
   refine pw_as (by rfl) rfl rfl ?_
   simp only [Act.put, pu]
   refine pw_as (by rfl) rfl rfl ?_
   simp only [Act.put, pu]
   refine pw_as (by rfl) rfl rfl ?_
   simp only [Act.put, pu]
   refine pw_nil ?_
   (repeat ((fail_if_success with_reducible refine rg ?_); go_step))
   refine wp_region_pw ?_
   refine pw_value (by rfl) (.slice none 0 0) ((fun _ => rfl)) ?_
   simp only [Act.put, pu]
   refine pw_nil ?_
   (repeat ((fail_if_success with_reducible refine rg ?_); go_step))
   refine wp_region_pw ?_
   refine pw_value (by rfl) (.int .i64 0) (fun _ => rfl) ?_
   simp only [Act.put, pu]
   refine pw_nil ?_
   go_wp2_with fail
   go_loopg [15, 16] 33 (fun y s15 s16 wr => ∃ i : Nat, i + y = 33 ∧ s16 = .int .i64 i ∧ OwnN wr w.heap.size s15 i (fun j => j) ∧ GrpAt wr g gr gf PP 1966023127 GG ∧ (∀ b, s15.ownBlock = some b → b ≠ g ∧ b ≠ gr ∧ b ≠ gf) ∧ Below w.heap.size w wr)
   case atStart => exact ⟨0, by omega, rfl, ownN_nil _ _ _, hg, (fun b h => (by cases h)), sb⟩
   case round =>
    clear hg sb
    obtain ⟨i, hi, rfl, hL, hg, hap, sb⟩ := hrel
    cases gk with
    | zero =>
     obtain rfl : i = 33 := by omega
     clear hi
     obtain ⟨ae, ce, ge, cur, rfl, hce, hm⟩ := ownN_slice hL (by decide) (fun i hi => by omega)
     clear hL hap
     (repeat ((fail_if_success with_reducible refine rg ?_); go_step))
     refine wp_region_pw ?_
     refine pw_mv (by rfl) rfl rfl ?_
     simp only [Act.put, pu]
     refine pw_value (by rfl) (.bool false) (exec_lt_b _ _ _ _ rfl ((33 : Nat) : Int) 33 rfl rfl false rfl) ?_
     simp only [Act.put, pu]
     refine pw_nil ?_
     (repeat ((fail_if_success with_reducible refine rg ?_); go_step))
     refine wp_region_pw ?_
     refine pw_mv (by rfl) rfl rfl ?_
     simp only [Act.put, pu]
     refine pw_mv (by rfl) rfl rfl ?_
     simp only [Act.put, pu]
     refine pw_mv (by rfl) rfl rfl ?_
     simp only [Act.put, pu]
     refine pw_callB (by rfl) 12 _ _ rfl Try.func12 (by kernel_rfl) #[.pointer (some ⟨g, 0, none⟩), .slice ae 33 ce, .slice ae 33 ce] rfl _ (hmy _ g gr gf hg ae ce) ?_
     intro z17003 k
     simp only [Act.put, pu]
     replace hg := hg.below k.nil
     replace hm := hm.below k.nil
     replace sb := sb.trans (k.below w.heap.size sb.size (by simp <;> omega))
     clear k
     refine pw_mv (by rfl) rfl rfl ?_
     simp only [Act.put, pu]
     refine pw_ext (by rfl) rfl rfl rfl ?_
     simp only [Act.put, pu]
     refine pw_ext (by rfl) rfl rfl rfl ?_
     simp only [Act.put, pu]
     refine pw_as (by rfl) rfl rfl ?_
     simp only [Act.put, pu]
     refine pw_as (by rfl) rfl rfl ?_
     simp only [Act.put, pu]
     refine pw_nil ?_
     (repeat ((fail_if_success with_reducible refine rg ?_); go_step))
     refine wp_region_ewb (by kernel_rfl) [] [(0, false), (1, false), (2, false), (3, false), (4, false), (5, true), (6, false), (7, false), (8, false), (9, false), (10, false)] ?_ (by kernel_rfl)
     have cb := below_self sb
     have osb := sb
     have ohg := hg
     have ohm := hm
     refine ew_mv (by rfl) rfl rfl ?_
     simp only [Act.put, pu]
     refine ew_mv (by rfl) rfl rfl ?_
     simp only [Act.put, pu]
     refine ew_value (by rfl) (.slice ae 32 ce) (y_first _ _ _ rfl sl_natsX 4 size_eln ae 33 ce 32 rfl rfl (by omega)) ?_
     simp only [Act.put, pu]
     refine ew_mv (by rfl) rfl rfl ?_
     simp only [Act.put, pu]
     refine ew_value (by rfl) (.slice ae 32 ce) (y_first _ _ _ rfl sl_natsX 4 size_eln ae 33 ce 32 rfl rfl (by omega)) ?_
     simp only [Act.put, pu]
     refine ew_callE (by rfl) 12 _ _ rfl Try.func12 (by kernel_rfl) #[.pointer (some ⟨g, 0, none⟩), .slice ae 32 ce, .slice ae 32 ce] rfl ?_
     intro wa5 hqb
     replace hg := hg.below hqb
     replace hm := hm.below hqb
     replace sb := below_on sb (Nat.le_refl _) hqb
     replace cb := below_on cb (Nat.le_refl _) hqb
     clear hqb
     refine (hok _ g gr gf hg ae ce ge cur hm).mono ?_
     rintro _ wb5 ⟨vf, rfl, hb⟩
     refine ⟨_, rfl, fun _ => below_on cb (Nat.le_refl _) hb, ?_⟩
     simp only [Act.put, pu]
     replace hg := hg.below hb
     replace hm := hm.below hb
     replace sb := below_on sb (Nat.le_refl _) hb
     replace cb := below_on cb (Nat.le_refl _) hb
     clear hb
     refine ew_mv (by rfl) rfl rfl ?_
     simp only [Act.put, pu]
     refine ew_ext (by rfl) rfl rfl rfl ?_
     simp only [Act.put, pu]
     refine ew_ext (by rfl) rfl rfl rfl ?_
     simp only [Act.put, pu]
     refine ew_as (by rfl) rfl rfl ?_
     simp only [Act.put, pu]
     refine ew_as (by rfl) rfl rfl ?_
     simp only [Act.put, pu]
     refine ew_nil ?_
     intro wz hqb
     replace hg := hg.below hqb
     replace hm := hm.below hqb
     replace sb := below_on sb (Nat.le_refl _) hqb
     clear hqb cb osb ohg ohm
     (repeat ((fail_if_success with_reducible refine rg ?_); go_step))
     refine wp_region_pw ?_
     refine pw_mv (by rfl) rfl rfl ?_
     simp only [Act.put, pu]
     refine pw_mv (by rfl) rfl rfl ?_
     simp only [Act.put, pu]
     refine pw_mv (by rfl) rfl rfl ?_
     simp only [Act.put, pu]
     refine pw_value (by rfl) (.bool true) (exec_eql_k .i64 _ _ _ _ rfl 1 1 rfl rfl true rfl) ?_
     simp only [Act.put, pu]
     refine pw_pick (by rfl) true (v := .bool true) rfl rfl rfl ?_
     simp only [Act.put, pu]
     refine pw_mv (by rfl) rfl rfl ?_
     simp only [Act.put, pu]
     refine pw_mv (by rfl) rfl rfl ?_
     simp only [Act.put, pu]
     refine pw_value (by rfl) (.bool true) (exec_eql_k .i64 _ _ _ _ rfl 0 0 rfl rfl true rfl) ?_
     simp only [Act.put, pu]
     refine pw_pick (by rfl) true (v := .bool true) rfl rfl rfl ?_
     simp only [Act.put, pu]
     refine pw_mv (by rfl) rfl rfl ?_
     simp only [Act.put, pu]
     refine pw_callB (by rfl) 5 _ _ rfl Try.func5 (by kernel_rfl) #[] rfl _ (haw _) ?_
     intro z19010 k
     simp only [Act.put, pu]
     replace sb := sb.trans (k.below w.heap.size sb.size (by simp <;> omega))
     clear k
     refine pw_pick (by rfl) true (v := .bool true) rfl rfl rfl ?_
     simp only [Act.put, pu]
     refine pw_as (by rfl) rfl rfl ?_
     simp only [Act.put, pu]
     refine pw_nil ?_
     go_wp2
     go_ret
     exact ⟨rfl, sb⟩
    | succ y =>
     have hlt : i < 33 := by omega
     obtain ⟨rG, rR, rF⟩ := hg
     have ehLxG : _ := fun e => (hap _ e).1 rfl
     have ehLxR : _ := fun e => (hap _ e).2.1 rfl
     have ehLxF : _ := fun e => (hap _ e).2.2 rfl
     clear hap
     (repeat ((fail_if_success with_reducible refine rg ?_); go_step))
     refine wp_region_pw ?_
     refine pw_mv (by rfl) rfl rfl ?_
     simp only [Act.put, pu]
     refine pw_value (by rfl) (.bool true) (exec_lt_b _ _ _ _ rfl i 33 rfl rfl true (decide_eq_true (by omega))) ?_
     simp only [Act.put, pu]
     refine pw_nil ?_
     (repeat ((fail_if_success with_reducible refine rg ?_); go_step))
     refine wp_region_pw ?_
     refine pw_mv (by rfl) rfl rfl ?_
     simp only [Act.put, pu]
     refine pw_mv (by rfl) rfl rfl ?_
     simp only [Act.put, pu]
     refine pw_callB (by rfl) 10 _ _ rfl Try.func10 (by kernel_rfl) #[.int .i64 (i : Nat)] rfl _ (o12 i _ (by omega)) ?_
     intro z16002 k
     simp only [Act.put, pu]
     replace rG := k.row rG (by simp <;> omega)
     replace rR := k.row rR (by simp <;> omega)
     replace rF := k.row rF (by simp <;> omega)
     replace hL := hL.on k (own_ne0 _)
     replace sb := sb.trans (k.below w.heap.size sb.size (by simp <;> omega))
     clear k
     refine pw_litr (by rfl) 22 32 1 _ rfl (natC i) ie _ Try.underlying22 hie hz hs1 hs2 [(0, .agg (natC i))] rfl (hl1 i) ?_
     intro gX z16003 n0 rX k
     simp only [Act.put, pu]
     have dGxX := Nat.lt_of_lt_of_le rG.lt n0
     have dRxX := Nat.lt_of_lt_of_le rR.lt n0
     have dFxX := Nat.lt_of_lt_of_le rF.lt n0
     have ehLxX := hL.new n0
     have bX := Nat.le_trans sb.size n0
     clear n0
     replace rG := k.row rG (by simp <;> omega)
     replace rR := k.row rR (by simp <;> omega)
     replace rF := k.row rF (by simp <;> omega)
     replace hL := hL.on k (own_ne0 _)
     replace sb := sb.trans (k.below w.heap.size sb.size (by simp <;> omega))
     clear k
     refine pw_appN (by rfl) _ _ rfl (w.heap.size) (_) (i) ((fun j => j)) rfl hL gX _ rfl rX (by omega) sb.size ?_
     have h0 := hL
     clear hL
     intro v1 z16004 hL k hp
     simp only [Act.put, pu]
     have crG := rG.lt
     replace rG := k.row rG (by first | exact own_nin ehLxG | exact own_nin (h0.low (by omega)))
     have crR := rR.lt
     replace rR := k.row rR (by first | exact own_nin ehLxR | exact own_nin (h0.low (by omega)))
     have crF := rF.lt
     replace rF := k.row rF (by first | exact own_nin ehLxF | exact own_nin (h0.low (by omega)))
     (try replace ehLxG := own_apart hp crG ehLxG)
     clear crG
     (try replace ehLxR := own_apart hp crR ehLxR)
     clear crR
     (try replace ehLxF := own_apart hp crF ehLxF)
     clear crF
     clear hp
     replace sb := sb.trans (k.below w.heap.size sb.size h0.base)
     clear h0
     clear k
     refine pw_as (by rfl) rfl rfl ?_
     simp only [Act.put, pu]
     refine pw_nil ?_
     (repeat ((fail_if_success with_reducible refine rg ?_); go_step))
     refine wp_region_pw ?_
     refine pw_mv (by rfl) rfl rfl ?_
     simp only [Act.put, pu]
     refine pw_value (by rfl) (.int .i64 ((i + 1 : Nat) : Int)) (exec_add_in _ _ _ _ rfl i 1 rfl rfl (by omega)) ?_
     simp only [Act.put, pu]
     refine pw_as (by rfl) rfl rfl ?_
     simp only [Act.put, pu]
     refine pw_nil ?_
     go_wp2
     go_roundg y
     case measure => omega
     case rel => exact ⟨i + 1, by omega, rfl, hL, ⟨rG, rR, rF⟩, fun b e => ⟨fun h => ehLxG (h ▸ e), fun h => ehLxR (h ▸ e), fun h => ehLxF (h ▸ e)⟩, sb⟩
  | succ y =>
   clear haw hsm hmy hok o12
   have hv := v_at g26 i (by omega)
   (repeat ((fail_if_success with_reducible refine rg ?_); go_step))
   refine wp_region_pw ?_
   refine pw_mv (by rfl) rfl rfl ?_
   simp only [Act.put, pu]
   refine pw_mv (by rfl) rfl rfl ?_
   simp only [Act.put, pu]
   refine pw_value (by rfl) (.int .i64 2) (exec_len_s 50 _ rfl (some ⟨gT, 0, none⟩) 2 2 rfl sl_grp) ?_
   simp only [Act.put, pu]
   refine pw_value (by rfl) (.bool true) (exec_lt_b _ _ _ _ rfl i 2 rfl rfl true (decide_eq_true (by omega))) ?_
   simp only [Act.put, pu]
   refine pw_nil ?_
   (repeat ((fail_if_success with_reducible refine rg ?_); go_step))
   refine wp_region_pw ?_
   refine pw_mv (by rfl) rfl rfl ?_
   simp only [Act.put, pu]
   refine pw_mv (by rfl) rfl rfl ?_
   simp only [Act.put, pu]
   refine pw_value (by rfl) (.pointer (some ⟨gT, 0 + i * 1, none⟩)) (exec_index_s 50 _ _ rfl gT 0 2 2 rfl i rfl (by omega) _ Try.underlying50 1 Try.sizeOf25) ?_
   simp only [Act.put, pu]
   refine pw_loadk (by rfl) 25 _ rfl _ (0 + i * 1) rfl rT.r (.pointer (vOf g26 i)) hv Try.isAgg25 ?_
   simp only [Act.put, pu]
   refine pw_mv (by rfl) rfl rfl ?_
   simp only [Act.put, pu]
   refine pw_mv (by rfl) rfl rfl ?_
   simp only [Act.put, pu]
   refine pw_callB (by rfl) 17 _ _ rfl Try.func17 (by kernel_rfl) #[.pointer (vOf g26 i), .slice ab n c, .slice ab n c] rfl _ (hdv _ (v_no i r26) hna) ?_
   intro z7006 k
   simp only [Act.put, pu]
   replace r3 := k.row r3 (by simp <;> omega)
   replace r26 := k.row r26 (by simp <;> omega)
   replace rT := k.row rT (by simp <;> omega)
   replace hna := hna.below k.nil
   replace sb := sb.trans (k.below w.heap.size sb.size (by simp <;> omega))
   clear k
   refine pw_mv (by rfl) rfl rfl ?_
   simp only [Act.put, pu]
   refine pw_ext (by rfl) rfl rfl rfl ?_
   simp only [Act.put, pu]
   refine pw_ext (by rfl) rfl rfl rfl ?_
   simp only [Act.put, pu]
   refine pw_ext (by rfl) rfl rfl rfl ?_
   simp only [Act.put, pu]
   refine pw_as (by rfl) rfl rfl ?_
   simp only [Act.put, pu]
   refine pw_as (by rfl) rfl rfl ?_
   simp only [Act.put, pu]
   refine pw_as (by rfl) rfl rfl ?_
   simp only [Act.put, pu]
   refine pw_nil ?_
   (repeat ((fail_if_success with_reducible refine rg ?_); go_step))
   refine wp_region_pw ?_
   refine pw_mv (by rfl) rfl rfl ?_
   simp only [Act.put, pu]
   refine pw_mv (by rfl) rfl rfl ?_
   simp only [Act.put, pu]
   refine pw_value (by rfl) (.pointer (some ⟨gT, 0 + i * 1, none⟩)) (exec_index_s 50 _ _ rfl gT 0 2 2 rfl i rfl (by omega) _ Try.underlying50 1 Try.sizeOf25) ?_
   simp only [Act.put, pu]
   refine pw_loadk (by rfl) 25 _ rfl _ (0 + i * 1) rfl rT.r (.pointer (vOf g26 i)) hv Try.isAgg25 ?_
   simp only [Act.put, pu]
   refine pw_mv (by rfl) rfl rfl ?_
   simp only [Act.put, pu]
   refine pw_mv (by rfl) rfl rfl ?_
   simp only [Act.put, pu]
   refine pw_callB (by rfl) 12 _ _ rfl Try.func12 (by kernel_rfl) #[.pointer (vOf g26 i), .slice ab n c, .slice ab n c] rfl _ (hth _ (v_no i r26)) ?_
   intro z8006 k
   simp only [Act.put, pu]
   replace r3 := k.row r3 (by simp <;> omega)
   replace r26 := k.row r26 (by simp <;> omega)
   replace rT := k.row rT (by simp <;> omega)
   replace hna := hna.below k.nil
   replace sb := sb.trans (k.below w.heap.size sb.size (by simp <;> omega))
   clear k
   refine pw_mv (by rfl) rfl rfl ?_
   simp only [Act.put, pu]
   refine pw_ext (by rfl) rfl rfl rfl ?_
   simp only [Act.put, pu]
   refine pw_ext (by rfl) rfl rfl rfl ?_
   simp only [Act.put, pu]
   refine pw_as (by rfl) rfl rfl ?_
   simp only [Act.put, pu]
   refine pw_as (by rfl) rfl rfl ?_
   simp only [Act.put, pu]
   refine pw_nil ?_
   (repeat ((fail_if_success with_reducible refine rg ?_); go_step))
   refine wp_region_ewb (by kernel_rfl) [] [(0, false), (1, false), (2, false), (3, false), (4, false), (5, true), (6, false), (7, false), (8, false), (9, false), (10, false), (11, false), (12, false), (13, false), (14, false), (15, false), (16, false), (17, false), (18, false), (19, false), (20, false), (21, false), (22, false), (23, false), (24, false), (25, false), (26, true), (27, false), (28, false), (29, false), (30, false), (31, false), (32, false), (33, false), (34, false), (35, false), (36, false), (37, true), (38, false), (39, false), (40, false), (41, false), (42, false), (43, false), (44, false), (45, false), (46, false), (47, false), (48, false), (49, false), (50, false), (51, false), (52, false), (53, false), (54, false), (55, false), (56, false), (57, false), (58, false), (59, false), (60, false), (61, false), (62, false), (63, false)] ?_ (by kernel_rfl)
   have or3 := r3
   have or26 := r26
   have orT := rT
   have cb := below_self sb
   have osb := sb
   have ohna := hna
   refine ew_mv (by rfl) rfl rfl ?_
   simp only [Act.put, pu]
   refine ew_mv (by rfl) rfl rfl ?_
   simp only [Act.put, pu]
   refine ew_value (by rfl) (.pointer (some ⟨gT, 0 + i * 1, none⟩)) (exec_index_s 50 _ _ rfl gT 0 2 2 rfl i rfl (by omega) _ Try.underlying50 1 Try.sizeOf25) ?_
   simp only [Act.put, pu]
   refine ew_loadk (by rfl) 25 _ rfl _ (0 + i * 1) rfl (fun _ hb => (orT.belowAll hb).r) (.pointer (vOf g26 i)) hv Try.isAgg25 ?_
   simp only [Act.put, pu]
   refine ew_mv (by rfl) rfl rfl ?_
   simp only [Act.put, pu]
   refine ew_callE (by rfl) 16 _ _ rfl Try.func16 (by kernel_rfl) #[.pointer (vOf g26 i), .slice ab n c] rfl ?_
   intro wa5 hqb
   replace r3 := r3.belowAll hqb
   replace r26 := r26.belowAll hqb
   replace rT := rT.belowAll hqb
   replace hna := hna.below hqb
   replace sb := below_on sb (Nat.le_refl _) hqb
   replace cb := below_on cb (Nat.le_refl _) hqb
   clear hqb
   refine (hta _ (v_no i r26) hna).mono ?_
   rintro _ wb5 ⟨gx1, rfl, hb⟩
   refine ⟨_, rfl, fun _ => below_on cb (Nat.le_refl _) hb, ?_⟩
   simp only [Act.put, pu]
   replace r3 := r3.belowAll hb
   replace r26 := r26.belowAll hb
   replace rT := rT.belowAll hb
   replace hna := hna.below hb
   replace sb := below_on sb (Nat.le_refl _) hb
   replace cb := below_on cb (Nat.le_refl _) hb
   clear hb
   refine ew_value (by rfl) (.int .i64 0) (exec_len_s 22 _ rfl (some ⟨gx1, 0, none⟩) 0 n rfl sl_natsX) ?_
   simp only [Act.put, pu]
   refine ew_value (by rfl) (.bool false) (exec_gt_i _ _ _ _ rfl 0 0 rfl rfl false (decide_eq_false (by decide))) ?_
   simp only [Act.put, pu]
   refine ew_mv (by rfl) rfl rfl ?_
   simp only [Act.put, pu]
   refine ew_mv (by rfl) rfl rfl ?_
   simp only [Act.put, pu]
   refine ew_mv (by rfl) rfl rfl ?_
   simp only [Act.put, pu]
   refine ew_value (by rfl) (.pointer (some ⟨gT, 0 + i * 1, none⟩)) (exec_index_s 50 _ _ rfl gT 0 2 2 rfl i rfl (by omega) _ Try.underlying50 1 Try.sizeOf25) ?_
   simp only [Act.put, pu]
   refine ew_loadk (by rfl) 25 _ rfl _ (0 + i * 1) rfl (fun _ hb => (orT.belowAll hb).r) (.pointer (vOf g26 i)) hv Try.isAgg25 ?_
   simp only [Act.put, pu]
   refine ew_mv (by rfl) rfl rfl ?_
   simp only [Act.put, pu]
   refine ew_loadm (by rfl) 32 _ rfl _ 0 rfl (fun _ hb => (or3.belowAll hb).r) _ (part_all _) _ Try.underlying32 rfl size_nat ?_
   simp only [Act.put, pu]
   refine ew_call (by rfl) 11 _ _ rfl Try.func11 (by kernel_rfl) #[.pointer (vOf g26 i), .slice ab n c, .agg (natC x)] rfl _ (fun w' hb => hev w' (v_no i (or26.belowAll hb)) (ohna.below hb)) ?_
   simp only [Act.put, pu]
   refine ew_value (by rfl) (.agg (natC 0)) (exec_build0 _ rfl _ built_nat) ?_
   simp only [Act.put, pu]
   refine ew_value (by rfl) (.bool false) (fun w' => (exec_neq_nat _ _ _ rfl 0 0 rfl rfl w').trans (by rw [neq_no12])) ?_
   simp only [Act.put, pu]
   refine ew_pick (by rfl) false (v := .bool false) rfl rfl rfl ?_
   simp only [Act.put, pu]
   refine ew_mv (by rfl) rfl rfl ?_
   simp only [Act.put, pu]
   refine ew_mv (by rfl) rfl rfl ?_
   simp only [Act.put, pu]
   refine ew_mv (by rfl) rfl rfl ?_
   simp only [Act.put, pu]
   refine ew_value (by rfl) (.pointer (some ⟨gT, 0 + i * 1, none⟩)) (exec_index_s 50 _ _ rfl gT 0 2 2 rfl i rfl (by omega) _ Try.underlying50 1 Try.sizeOf25) ?_
   simp only [Act.put, pu]
   refine ew_loadk (by rfl) 25 _ rfl _ (0 + i * 1) rfl (fun _ hb => (orT.belowAll hb).r) (.pointer (vOf g26 i)) hv Try.isAgg25 ?_
   simp only [Act.put, pu]
   refine ew_mv (by rfl) rfl rfl ?_
   simp only [Act.put, pu]
   refine ew_mv (by rfl) rfl rfl ?_
   simp only [Act.put, pu]
   refine ew_callE (by rfl) 13 _ _ rfl Try.func13 (by kernel_rfl) #[.pointer (vOf g26 i), .slice ab n c, .slice ab n c] rfl ?_
   intro wa26 hqb
   replace r3 := r3.belowAll hqb
   replace r26 := r26.belowAll hqb
   replace rT := rT.belowAll hqb
   replace hna := hna.below hqb
   replace sb := below_on sb (Nat.le_refl _) hqb
   replace cb := below_on cb (Nat.le_refl _) hqb
   clear hqb
   refine (hpa _ (v_no i r26) hna).mono ?_
   rintro _ wb26 ⟨gx2, rfl, hb⟩
   refine ⟨_, rfl, fun _ => below_on cb (Nat.le_refl _) hb, ?_⟩
   simp only [Act.put, pu]
   replace r3 := r3.belowAll hb
   replace r26 := r26.belowAll hb
   replace rT := rT.belowAll hb
   replace hna := hna.below hb
   replace sb := below_on sb (Nat.le_refl _) hb
   replace cb := below_on cb (Nat.le_refl _) hb
   clear hb
   refine ew_value (by rfl) (.int .i64 0) (exec_len_s 22 _ rfl (some ⟨gx2, 0, none⟩) 0 (max n n) rfl sl_natsX) ?_
   simp only [Act.put, pu]
   refine ew_value (by rfl) (.bool false) (exec_gt_i _ _ _ _ rfl 0 0 rfl rfl false (decide_eq_false (by decide))) ?_
   simp only [Act.put, pu]
   refine ew_pick (by rfl) false (v := .bool false) rfl rfl rfl ?_
   simp only [Act.put, pu]
   refine ew_mv (by rfl) rfl rfl ?_
   simp only [Act.put, pu]
   refine ew_mv (by rfl) rfl rfl ?_
   simp only [Act.put, pu]
   refine ew_mv (by rfl) rfl rfl ?_
   simp only [Act.put, pu]
   refine ew_value (by rfl) (.pointer (some ⟨gT, 0 + i * 1, none⟩)) (exec_index_s 50 _ _ rfl gT 0 2 2 rfl i rfl (by omega) _ Try.underlying50 1 Try.sizeOf25) ?_
   simp only [Act.put, pu]
   refine ew_loadk (by rfl) 25 _ rfl _ (0 + i * 1) rfl (fun _ hb => (orT.belowAll hb).r) (.pointer (vOf g26 i)) hv Try.isAgg25 ?_
   simp only [Act.put, pu]
   refine ew_mv (by rfl) rfl rfl ?_
   simp only [Act.put, pu]
   refine ew_mv (by rfl) rfl rfl ?_
   simp only [Act.put, pu]
   refine ew_callE (by rfl) 14 _ _ rfl Try.func14 (by kernel_rfl) #[.pointer (vOf g26 i), .slice ab n c, .slice ab n c] rfl ?_
   intro wa37 hqb
   replace r3 := r3.belowAll hqb
   replace r26 := r26.belowAll hqb
   replace rT := rT.belowAll hqb
   replace hna := hna.below hqb
   replace sb := below_on sb (Nat.le_refl _) hqb
   replace cb := below_on cb (Nat.le_refl _) hqb
   clear hqb
   refine (hpm _ (v_no i r26) hna).mono ?_
   rintro _ wb37 ⟨gx3, cx3, rfl, hb⟩
   refine ⟨_, rfl, fun _ => below_on cb (Nat.le_refl _) hb, ?_⟩
   simp only [Act.put, pu]
   replace r3 := r3.belowAll hb
   replace r26 := r26.belowAll hb
   replace rT := rT.belowAll hb
   replace hna := hna.below hb
   replace sb := below_on sb (Nat.le_refl _) hb
   replace cb := below_on cb (Nat.le_refl _) hb
   clear hb
   refine ew_value (by rfl) (.int .i64 0) (exec_len_s 22 _ rfl (some ⟨gx3, 0, none⟩) 0 cx3 rfl sl_natsX) ?_
   simp only [Act.put, pu]
   refine ew_value (by rfl) (.bool false) (exec_gt_i _ _ _ _ rfl 0 0 rfl rfl false (decide_eq_false (by decide))) ?_
   simp only [Act.put, pu]
   refine ew_pick (by rfl) false (v := .bool false) rfl rfl rfl ?_
   simp only [Act.put, pu]
   refine ew_mv (by rfl) rfl rfl ?_
   simp only [Act.put, pu]
   refine ew_mv (by rfl) rfl rfl ?_
   simp only [Act.put, pu]
   refine ew_value (by rfl) (.int .i64 0) (exec_len_s 22 _ rfl none 0 0 rfl sl_natsX) ?_
   simp only [Act.put, pu]
   refine ew_value (by rfl) (.bool false) (exec_gt_i _ _ _ _ rfl 0 0 rfl rfl false (decide_eq_false (by decide))) ?_
   simp only [Act.put, pu]
   refine ew_pick (by rfl) false (v := .bool false) rfl rfl rfl ?_
   simp only [Act.put, pu]
   refine ew_mv (by rfl) rfl rfl ?_
   simp only [Act.put, pu]
   refine ew_mv (by rfl) rfl rfl ?_
   simp only [Act.put, pu]
   refine ew_value (by rfl) (.int .i64 0) (exec_len_s 22 _ rfl none 0 0 rfl sl_natsX) ?_
   simp only [Act.put, pu]
   refine ew_value (by rfl) (.bool false) (exec_gt_i _ _ _ _ rfl 0 0 rfl rfl false (decide_eq_false (by decide))) ?_
   simp only [Act.put, pu]
   refine ew_pick (by rfl) false (v := .bool false) rfl rfl rfl ?_
   simp only [Act.put, pu]
   refine ew_mv (by rfl) rfl rfl ?_
   simp only [Act.put, pu]
   refine ew_mv (by rfl) rfl rfl ?_
   simp only [Act.put, pu]
   refine ew_value (by rfl) (.bool false) (exec_neq_k .i64 _ _ _ _ rfl 1 1 rfl rfl false rfl) ?_
   simp only [Act.put, pu]
   refine ew_pick (by rfl) false (v := .bool false) rfl rfl rfl ?_
   simp only [Act.put, pu]
   refine ew_mv (by rfl) rfl rfl ?_
   simp only [Act.put, pu]
   refine ew_mv (by rfl) rfl rfl ?_
   simp only [Act.put, pu]
   refine ew_value (by rfl) (.int .i64 0) (exec_len_s 22 _ rfl none 0 0 rfl sl_natsX) ?_
   simp only [Act.put, pu]
   refine ew_value (by rfl) (.bool false) (exec_gt_i _ _ _ _ rfl 0 0 rfl rfl false (decide_eq_false (by decide))) ?_
   simp only [Act.put, pu]
   refine ew_pick (by rfl) false (v := .bool false) rfl rfl rfl ?_
   simp only [Act.put, pu]
   refine ew_mv (by rfl) rfl rfl ?_
   simp only [Act.put, pu]
   refine ew_mv (by rfl) rfl rfl ?_
   simp only [Act.put, pu]
   refine ew_value (by rfl) (.bool false) (exec_neq_k .i64 _ _ _ _ rfl 1 1 rfl rfl false rfl) ?_
   simp only [Act.put, pu]
   refine ew_pick (by rfl) false (v := .bool false) rfl rfl rfl ?_
   simp only [Act.put, pu]
   refine ew_nil ?_
   intro wz hqb
   replace r3 := r3.belowAll hqb
   replace r26 := r26.belowAll hqb
   replace rT := rT.belowAll hqb
   replace hna := hna.below hqb
   replace sb := below_on sb (Nat.le_refl _) hqb
   clear hqb cb osb ohna or3 or26 orT
   (repeat ((fail_if_success with_reducible refine rg ?_); go_step))
   refine wp_region_pw ?_
   refine pw_mv (by rfl) rfl rfl ?_
   simp only [Act.put, pu]
   refine pw_value (by rfl) (.int .i64 ((i + 1 : Nat) : Int)) (exec_add_in _ _ _ _ rfl i 1 rfl rfl (by omega)) ?_
   simp only [Act.put, pu]
   refine pw_as (by rfl) rfl rfl ?_
   simp only [Act.put, pu]
   refine pw_nil ?_
   go_wp2
   go_roundg y
   case measure => omega
   case rel => exact ⟨i + 1, by omega, rfl, r3, r26, rT, hna, sb⟩
theorem walk (ab : Option Addr) (n c : Nat) (F : Nat → Nat) (gb ob : Nat) (bcs : Array Value) (tb : TypeId) (x : Nat) (w : World) (hna : NatsAt w ab n F gb ob bcs tb) (hx : x < 2 ^ 256) :
  Calls Try.prog 4 #[.slice ab n c, .agg (natC x)] w fun e w' => e = .returned (.bool true) ∧ Below w.heap.size w w' := by
 by_cases h : 8 < n
 ·exact core0 n c x ab w h
 ·exact core1 n c x ab F gb ob bcs tb w (by omega) hx hna
set_option maxRecDepth 100000 in
theorem lifted (os : Os) (started : os.Started) (H : Type) (enc : TypeId × Value → H) :
  ReturnsInHanded {} Try.checked os 4 .any (Rows.polyNobodySpec.pre6 enc Try.prog Try.f4 Rows.polyNobodyRow.domain false) (Rows.polyNobodySpec.post enc Try.prog Try.f4 false true false false) := by
 refine returnsInHanded_of_change (C := Try.checked) own started (by kernel_rfl) Try.func4
  (ChangeSpec.witness6 (enc := enc) (C := Try.checked) false ⟨#[], #[.slice none 0 0, .agg #[.int .u64 0, .int .u64 0, .int .u64 0, .int .u64 0]], []⟩ 8 (by kernel_rfl) (by kernel_rfl) (by kernel_rfl) (by kernel_rfl)) ?_
 intro W base args ds gs before hval0 hW hcnd _
 have hval : ∀ (j : Nat) t v, Try.f4.params[j]? = some t → args[j]? = some v → Value.okWide Try.prog W .any base t v := hval0
 have hW' := hW
 obtain ⟨p, q, hA0, hV, rfl, hfz, hnd⟩ := hW
 have hA : DataW.TrodAll enc Try.prog W 0 (fun _ => true) true Try.f4.params.toList args.toList ds p := hA0
 rw [Try.params4] at hA hval
 obtain ⟨v0, vs0, d0, ds0, p0, q0, hargs, rfl, rfl, h0, r0⟩ := trodAll_cons hA
 obtain ⟨v1, vs1, d1, ds1, p1, q1, rfl, rfl, rfl, h1, r1⟩ := trodAll_cons r0
 obtain ⟨rfl, rfl, rfl⟩ := trodAll_nil r1
 obtain rfl : args = #[v0, v1] := by cases args; simp_all
 obtain ⟨rfl, rfl⟩ := trodVars_none hV
 have k0 := h0
 have lt0 := lt_of_trod h0
 obtain ⟨ab0, n0, c0, F0, gb0, ob0, bcs0, tb0, rfl, _, _, hn0⟩ := open_nats (hval 0 22 v0 rfl rfl) h0
 have k1 := h1
 have lt1 := lt_of_trod h1
 obtain ⟨N1, hN1, rfl⟩ := open_nat (hval 1 32 v1 rfl rfl) h1
 clear hA0 hval0
 refine (walk ab0 n0 c0 F0 gb0 ob0 bcs0 tb0 N1 W hn0 hN1).mono fun e W' ⟨he, bel⟩ => ?_
 subst he
 exact ⟨_, rfl, _, _, _, [], _, [], hW', trodAll_mk1 (shut_bool Try.underlying4 _), (trodAll_cons_mk (Below.trod laidOut (by kernel_rfl) (of_decide_eq_true (by kernel_rfl)) k0 bel lt0) (trodAll_cons_mk (Below.trod laidOut (by kernel_rfl) (of_decide_eq_true (by kernel_rfl)) k1 bel lt1) trodAll_mk0)), rfl, bel.frame _, fun h => by cases h⟩
theorem over : Rows.polyNobodyRow.holds Try.pinned (OpenSpec.ofChange Rows.polyNobodySpec) :=
 OpenClaim.holds_of_wide 4 Try.f4 rfl rfl rfl rfl rfl rfl rfl ⟨rfl, rfl, rfl, rfl, rfl⟩ rfl rfl rfl rfl rfl (by kernel_rfl) Try.func4 (by kernel_rfl)
  (of_decide_eq_true (by kernel_rfl)) (by unfold Func.isWrapper; first | (rw [if_pos (by decide +kernel)]; kernel_rfl) | (rw [if_neg (by decide +kernel)]; exact ⟨rfl, rfl⟩))
  (fun os started H enc _ => lifted os started H enc)
end polyNobodyP
/-- for every list of naturals and every natural: without a group nothing is told, and nothing fails; no condition. -/
theorem polyNobody_holds : Rows.PolyNobodySaid := polyNobodyP.over
end Go.Proofs.Ythnpeebnmommbaa
