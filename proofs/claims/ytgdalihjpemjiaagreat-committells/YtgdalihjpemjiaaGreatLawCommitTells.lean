/- CommitTells: for every number, list of naturals and two numbers: in a small group, of a list of at most 9, the commitments to the polynomial, the commitment to what it is at a place, and whether they may be, are as the document says; no condition. -/
import Derived.Test.YtgdalihjpemjiaaGreatCR
import Derived.Test.YtgdalihjpemjiaaGreatGU
set_option maxRecDepth 100000
set_option maxHeartbeats 8000000
namespace Go.Proofs.YtgdalihjpemjiaaGreat
open Go.ChangeShapes Go.WideShapes Go.ChangeAt Go.RowKit
namespace commitTellsP
set_option linter.unusedVariables false
theorem und_bool : Tryz.prog.underlying 4 = some .bool := by kernel_rfl
theorem cells_i2 : Tryz.prog.cellsOf 23 = 2 := by kernel_rfl
theorem cells_i1 : Tryz.prog.cellsOf 3 = 1 := by kernel_rfl
theorem open_i2 {H : Type} {enc : TypeId × Value → H} {W : World} {base : Nat} {v0 : Value} {d0 : DataW H} {p0 : List MemPlace}
  (hv : Value.okWide Tryz.prog W .any base 23 v0) (h0 : DataW.Trod enc Tryz.prog W 0 (fun _ => true) true 23 v0 d0 p0) :
  ∃ x y : Int, v0 = .agg #[.int .i64 x, .int .i64 y] ∧ x ≤ 9223372036854775807 := by
 obtain ⟨cs, rfl, hsz, _⟩ : ∃ cs, v0 = .agg cs ∧ cs.size = Tryz.prog.cellsOf 23 ∧ Row.okWide Tryz.prog W .any base 23 cs := by
  simpa [Value.okWide, Tryz.underlying23] using hv
 rw [cells_i2] at hsz
 obtain ⟨l⟩ := cs
 obtain ⟨c0, c1, rfl⟩ := list2 l hsz
 obtain ⟨fuel, hf⟩ := h0
 obtain ⟨y0, y1, m, hy0, hy1⟩ := trod_array2 Tryz.underlying23 cells_i1 hf
 obtain ⟨x, e1, _, hw⟩ := DataW.trod_int Tryz.underlying3 hy0
 obtain ⟨y, e2, _, _⟩ := DataW.trod_int Tryz.underlying3 hy1
 refine ⟨x, y, ?_, (bounds_i64 hw).2⟩
 have e3 : c0 = .int .i64 x := by simpa using e1
 have e4 : c1 = .int .i64 y := by simpa using e2
 rw [e3, e4]
theorem neq_same (X : Nat) : (!decide (X % 2 ^ 256 = X % 2 ^ 256)) = false := by rw [decide_eq_true rfl]; rfl
theorem core0 (a0 x y : Int) (n c : Nat) (ab : Option Addr) (w : World) (h : 9 < n) :
  Calls Tryz.prog 3 #[.int .i64 a0, .slice ab n c, .agg #[.int .i64 x, .int .i64 y]] w fun e w' => e = .returned (.bool true) ∧ Below w.heap.size w w' := by
 have haw := awake14_any
 go_enter Tryz.func3, Tryz.ntmps3
 iterate 2 go_step
 refine rp ?_;refine pw_boxr (by rfl) 23 _ rfl (#[.int .i64 x, .int .i64 y]) rfl ?_;intro g5 z0 n0 r5 k;simp only [pv];clear n0
 have sb := k_b k
 clear k;refine p_v (.bool false) (fun _ => rfl) (pw_nil ?_);simp only [pv]
 iterate 4 go_step
 refine rp ?_;refine p_m ?_;simp only [pv];refine p_v (.int .i64 n) (n_l ab n c sl_natsX) ?_;simp only [pv];refine p_v (.bool true) (gt_t n 9) (pw_nil ?_);simp only [pv]
 iterate 4 go_step
 refine rp ?_;refine p_c 9 Tryz.func9 #[] (haw _) ?_;intro z2000 k;simp only [pv];replace sb := kk sb k;clear k;refine p_a (pw_nil ?_);simp only [pv]
 go_wp2
 go_ret
 exact ⟨rfl, sb⟩
/-- What To has told: nothing, or commitments. -/
structure TC (P : Prop) (nx : Nat) (CF : Nat → Nat) (w : World) (v : Value) (e : Int) : Prop where
 bad : ¬ P → v = .slice none 0 0 ∧ e = 1
 ok : P → ∃ gC, v = .slice (some ⟨gC, 0, none⟩) nx nx ∧ e = 0 ∧ Row w gC (nsC nx CF) 40
theorem TC.below {P : Prop} {nx : Nat} {CF : Nat → Nat} {w w' : World} {v : Value} {e : Int} (h : TC P nx CF w v e) (hb : Below w.heap.size w w') : TC P nx CF w' v e :=
 ⟨h.bad, fun p => by
  obtain ⟨gC, h1, h2, h3⟩ := h.ok p
  exact ⟨gC, h1, h2, h3.belowAll hb⟩⟩
theorem core1 (a0 x y : Int) (nx : Nat) (CF : Nat → Nat) (PP QQ GG n c AT : Nat) [NeZero QQ] (ab : Option Addr) (La : List (Fin QQ)) (tl : Nat) (B : Bool) (w : World) (hn : n ≤ 9) (htl : (ptrim La).length = tl)
  (hsm : ∀ w', Calls Tryz.prog 10 #[.int .i64 a0] w' fun e w2 => ∃ g gr gf, e = .returned (.tuple #[.pointer (some ⟨g, 0, none⟩), .agg (smC (PP : Nat) (QQ : Nat) (GG : Nat)), .bool true]) ∧ GrpAt w2 g gr gf PP QQ GG ∧ Below w'.heap.size w' w2)
  (hal : ∀ w', Below w.heap.size w w' → Calls Tryz.prog 12 #[.slice ab n c, .int .i64 (QQ : Nat)] w' fun e w2 => ∃ v', e = .returned v' ∧ IlAt w2 v' La ∧ Below w'.heap.size w' w2)
  (hla : La.length = n)
  (htb : ∀ g gr gf w', Below w.heap.size w w' → GrpAt w' g gr gf PP QQ GG → Calls Tryz.prog 13 #[.pointer (some ⟨g, 0, none⟩), .slice ab n c, .int .i64 x] w' fun e w2 => ∃ v ee, e = .returned (.tuple #[v, .int .i64 ee]) ∧ TC (1 ≤ x ∧ x ≤ 7 ∧ (tl : Int) ≤ x) nx CF w2 v ee ∧ Below w'.heap.size w' w2)
  (hrt : (1 ≤ x ∧ x ≤ 7 ∧ (tl : Int) ≤ x) → ∀ w' {at' ct}, IlAt w' (.slice at' tl ct) (ptrim La) → Calls Tryz.prog 20 #[.agg (smC (PP : Nat) (QQ : Nat) (GG : Nat)), .slice at' tl ct, .int .i64 x] w' fun e w2 => ∃ ax cx gx cur, e = .returned (.slice ax nx cx) ∧ NatsAt w2 ax nx CF gx 0 cur 40 ∧ Below w'.heap.size w' w2)
  (hsa : ∀ w' gC ax cx gx cur, Row w' gC (nsC nx CF) 40 → NatsAt w' ax nx CF gx 0 cur 40 → Calls Tryz.prog 19 #[.slice (some ⟨gC, 0, none⟩) nx nx, .slice ax nx cx] w' (Rt (.bool true) w'))
  (hma : ∀ g gr gf w', Below w.heap.size w w' → GrpAt w' g gr gf PP QQ GG → Calls Tryz.prog 14 #[.pointer (some ⟨g, 0, none⟩), .slice ab n c] w' (Rt (.bool B) w'))
  (hrm : ∀ w', Below w.heap.size w w' → Calls Tryz.prog 15 #[.agg (smC (PP : Nat) (QQ : Nat) (GG : Nat)), .slice ab n c] w' (Rt (.bool B) w'))
  (hat : ∀ g gr gf w', Below w.heap.size w w' → GrpAt w' g gr gf PP QQ GG → Calls Tryz.prog 16 #[.pointer (some ⟨g, 0, none⟩), .slice ab n c, .int .i64 y] w' (Rt (.agg (natC AT)) w'))
  (hA0 : y < 0 ∨ 7 < y ∨ 7 < n → AT = 0)
  (hA1 : 0 ≤ y ∧ y ≤ 7 ∧ n ≤ 7 → ∀ w', Below w.heap.size w w' → Calls Tryz.prog 18 #[.agg (smC (PP : Nat) (QQ : Nat) (GG : Nat)), .slice ab n c, .int .i64 y] w' (Rt (.int .i64 (AT : Nat)) w'))
  (hof : ∀ w', Calls Tryz.prog 17 #[.int .i64 (AT : Nat)] w' (Rt (.agg (natC AT)) w')) :
  Calls Tryz.prog 3 #[.int .i64 a0, .slice ab n c, .agg #[.int .i64 x, .int .i64 y]] w fun e w' => e = .returned (.bool true) ∧ Below w.heap.size w w' := by
 have haw := awake14_any
 have htr := fun w' v (h : IlAt w' v La) => rtrimL v La w' (by omega) h
 go_enter Tryz.func3, Tryz.ntmps3
 iterate 2 go_step
 refine rp ?_;refine pw_boxr (by rfl) 23 _ rfl (#[.int .i64 x, .int .i64 y]) rfl ?_;intro g5 z0 n0 r5 k;simp only [pv];clear n0
 have sb := k_b k
 clear k;refine p_v (.bool false) (fun _ => rfl) (pw_nil ?_);simp only [pv]
 iterate 4 go_step
 refine rp ?_;refine p_m ?_;simp only [pv];refine p_v (.int .i64 n) (n_l ab n c sl_natsX) ?_;simp only [pv];refine p_v (.bool false) (gt_f n 9) (pw_nil ?_);simp only [pv]
 iterate 7 go_step
 refine rp ?_;refine p_m ?_;simp only [pv];refine p_f 10 Tryz.func10 #[.int .i64 a0] (hsm _) ?_
 rintro _ z3001 ⟨g, gr, gf, rfl, ⟨rG, rR, rF⟩, hb⟩
 refine ⟨_, rfl, ?_⟩
 simp only [pv]
 have k := Kept.ofBelow hb
 clear hb;replace r5 := k.ro r5;replace sb := kk sb k;clear k;refine p_m ?_;simp only [pv];refine p_e ?_;simp only [pv];refine p_e ?_;simp only [pv];refine p_e ?_;simp only [pv];refine pw_new (by rfl) 27 rfl _ zero_sm ?_;intro g8 z3006 n0 r8 k;simp only [pv]
 have d5x8 := l_l r5.lt n0
 have dGx8 := l_l rG.lt n0
 have dRx8 := l_l rR.lt n0
 have dFx8 := l_l rF.lt n0
 have b8 := Nat.le_trans sb.size n0
 clear n0;replace r5 := k.ro r5;replace rG := k.ro rG;replace rR := k.ro rR;replace rF := k.ro rF;replace sb := kk sb k;clear k;refine p_a ?_;simp only [pv];refine pw_put (by rfl) 27 _ _ rfl _ rfl r8 (smC (PP : Nat) (QQ : Nat) (GG : Nat)) rfl (by exact size_sm) (by rfl) (sm_one _ _ _) ?_;clear r8;intro z3008 r8 k;simp only [Act.put];replace r5 := k.ro r5;replace rG := k.ro rG;replace rR := k.ro rR;replace rF := k.ro rF;replace sb := kk sb k;clear k;refine p_a (pw_nil ?_);simp only [pv];clear hsm
 iterate 3 go_step
 refine rp ?_;refine p_m ?_;simp only [pv];refine p_v (.pointer (some ⟨g8, 0 + 1, none⟩)) (exec_field 27 _ 1 rfl g8 0 rfl _ Tryz.underlying27 _ rfl 0 Tryz.sizeOf3) ?_;simp only [pv];refine p_d (0 + 1) r8.r (.int .i64 (QQ : Nat)) rfl Tryz.isAgg3 ?_;simp only [pv];refine p_f 12 Tryz.func12 #[.slice ab n c, .int .i64 (QQ : Nat)] (hal _ sb) ?_
 rintro _ z4003 ⟨va, rfl, hia, hb⟩
 refine ⟨_, rfl, ?_⟩
 simp only [pv]
 have k := Kept.ofBelow hb
 clear hb;replace r5 := k.ro r5;replace r8 := k.ro r8;replace rG := k.ro rG;replace rR := k.ro rR;replace rF := k.ro rF;replace sb := kk sb k;clear k;refine p_f 11 Tryz.func11 #[va] (htr _ va hia) ?_
 rintro _ z4004 ⟨vt, rfl, hil, hb⟩
 refine ⟨_, rfl, ?_⟩
 simp only [pv]
 have k := Kept.ofBelow hb
 clear hb;replace r5 := k.ro r5;replace r8 := k.ro r8;replace rG := k.ro rG;replace rR := k.ro rR;replace rF := k.ro rF;replace hia := hia.below k.nil;replace sb := kk sb k;clear k;refine p_a (pw_nil ?_);simp only [pv];clear hal htr hia
 obtain ⟨at', ct, rfl⟩ : ∃ at' ct, vt = .slice at' tl ct := by
  obtain ⟨a1, c1, _, _, _, _, e, _⟩ := hil
  rw [htl] at e
  exact ⟨a1, c1, e⟩
 clear htl
 iterate 3 go_step
 refine rp ?_;refine p_m ?_;simp only [pv];refine p_m ?_;simp only [pv];refine p_v (.pointer (some ⟨g5, 0, none⟩)) (exec_index 23 _ _ rfl g5 rfl 0 2 rfl (by decide) _ Tryz.underlying23 Tryz.sizeOf3) ?_;simp only [pv];refine p_d 0 r5.r (.int .i64 x) rfl Tryz.isAgg3 ?_;simp only [pv];refine p_f 13 Tryz.func13 #[.pointer (some ⟨g, 0, none⟩), .slice ab n c, .int .i64 x] (htb g gr gf _ sb (⟨rG, rR, rF⟩ : GrpAt _ g gr gf PP QQ GG)) ?_
 rintro _ z5004 ⟨vC, ee, rfl, hTC, hb⟩
 refine ⟨_, rfl, ?_⟩
 simp only [pv]
 have k := Kept.ofBelow hb
 clear hb;replace r5 := k.ro r5;replace r8 := k.ro r8;replace rG := k.ro rG;replace rR := k.ro rR;replace rF := k.ro rF;replace hil := hil.below k.nil;replace sb := kk sb k;clear k;refine p_m ?_;simp only [pv];refine p_e ?_;simp only [pv];refine p_e ?_;simp only [pv];refine p_a ?_;simp only [pv];refine p_a (pw_nil ?_);simp only [pv]
 iterate 4 go_step
 refine wp_region_qw (by kernel_rfl) (by kernel_rfl) ?_;refine q_m ?_;simp only [pv];refine q_v (.bool false) (exec_not _ _ rfl true rfl) ?_;simp only [pv];refine q_m ?_;simp only [pv];refine q_m ?_;simp only [pv];refine q_m ?_;simp only [pv];refine q_k 14 Tryz.func14 #[.pointer (some ⟨g, 0, none⟩), .slice ab n c] (fun w' hb => hma g gr gf w' (below_on sb (Nat.le_refl _) hb) ⟨rG.belowAll hb, rR.belowAll hb, rF.belowAll hb⟩) ?_;simp only [pv];refine qw_loadm (by rfl) 27 _ rfl _ (0) rfl r8 (smC (PP : Nat) (QQ : Nat) (GG : Nat)) (part_all _) _ Tryz.underlying27 rfl size_sm ?_;simp only [pv];refine q_m ?_;simp only [pv];refine qw_callK (by rfl) 15 _ _ rfl Tryz.func15 (by kernel_rfl) #[.agg (smC (PP : Nat) (QQ : Nat) (GG : Nat)), .slice ab n c] rfl _ (fun w' hb => hrm w' (below_on sb (Nat.le_refl _) hb)) ?_;simp only [pv];refine q_v (.bool false) (y_neB _ _ _ _ rfl B B rfl rfl und_bool false (by simp)) ?_;simp only [pv];refine q_p false (.bool false) ?_;simp only [pv];refine qw_nil ?_;intro w6 hqb;replace r5 := r5.belowAll hqb;replace r8 := r8.belowAll hqb;replace rG := rG.belowAll hqb;replace rR := rR.belowAll hqb;replace rF := rF.belowAll hqb;replace hil := hil.below hqb;replace hTC := hTC.below hqb;replace sb := b_o sb hqb;clear hqb
 have cb := below_self sb
 iterate 7 go_step
 refine rp ?_;refine p_m ?_;simp only [pv];refine p_m ?_;simp only [pv];refine p_v (.pointer (some ⟨g5, 1, none⟩)) (exec_index 23 _ _ rfl g5 rfl 1 2 rfl (by decide) _ Tryz.underlying23 Tryz.sizeOf3) ?_;simp only [pv];refine pw_loadk (by rfl) 3 _ rfl _ (1) rfl r5.r (.int .i64 y) rfl Tryz.isAgg3 ?_;simp only [pv];refine p_c 16 Tryz.func16 #[.pointer (some ⟨g, 0, none⟩), .slice ab n c, .int .i64 y] (hat g gr gf _ sb (⟨rG, rR, rF⟩ : GrpAt _ g gr gf PP QQ GG)) ?_;intro z8004 k;simp only [pv];replace r5 := k.ro r5;replace r8 := k.ro r8;replace rG := k.ro rG;replace rR := k.ro rR;replace rF := k.ro rF
 replace cb := cb.trans (k.below _ cb.size (by simp <;> omega))
 replace sb := kk sb k;clear k;refine pw_new (by rfl) 40 rfl _ zero_nat ?_;intro g13 z8005 n0 r13 k;simp only [pv]
 have d5x13 := l_l r5.lt n0
 have d8x13 := l_l r8.lt n0
 have dGx13 := l_l rG.lt n0
 have dRx13 := l_l rR.lt n0
 have dFx13 := l_l rF.lt n0
 have bcbx13 := Nat.le_trans cb.size n0
 have b13 := Nat.le_trans sb.size n0
 clear n0;replace r5 := k.ro r5;replace r8 := k.ro r8;replace rG := k.ro rG;replace rR := k.ro rR;replace rF := k.ro rF
 replace cb := cb.trans (k.below _ cb.size (by simp <;> omega))
 replace sb := kk sb k;clear k;refine pw_put (by rfl) 40 _ _ rfl _ rfl r13 (natC AT) rfl (by exact size_nat) (by simp only [natC_size]) (natC_one _) ?_;clear r13;intro z8006 r13 k;simp only [Act.put];replace r5 := k.ro r5;replace r8 := k.ro r8;replace rG := k.ro rG;replace rR := k.ro rR;replace rF := k.ro rF
 replace cb := cb.trans (k.below _ cb.size (by simp <;> omega))
 replace sb := kk sb k;clear k;refine pw_nil ?_;replace hil := hil.below cb;replace hTC := hTC.below cb;clear cb
 by_cases hy0 : y < 0
 ·iterate 4 go_step
  refine rp ?_;refine p_v (.pointer (some ⟨g5, 1, none⟩)) (exec_index 23 _ _ rfl g5 rfl 1 2 rfl (by decide) _ Tryz.underlying23 Tryz.sizeOf3) ?_;simp only [pv];refine p_d 1 r5.r (.int .i64 y) rfl Tryz.isAgg3 ?_;simp only [pv];refine p_v (.bool true) (lt_t y 0) ?_;simp only [pv];refine p_m ?_;simp only [pv];refine p_s ?_;simp only [pv];refine p_s ?_;simp only [pv];refine p_s ?_;simp only [pv];refine p_k true (.bool true) ?_;simp only [pv];refine p_m ?_;simp only [pv];refine p_s ?_;simp only [pv];refine p_s ?_;simp only [pv];refine p_s ?_;simp only [pv];refine p_k true (.bool true) ?_;simp only [pv];refine pw_nil ?_
  have hz := hA0 (by omega)
  subst hz
  iterate 4 go_step
  refine rp ?_;refine p_l r13.r ?_;simp only [pv];refine p_v (.agg (natC 0)) (exec_build0 _ rfl _ built_nat) ?_;simp only [pv];refine p_v (.bool false) (fun w' => (exec_neq_nat _ _ _ rfl 0 0 rfl rfl w').trans (by rw [neq_same])) (pw_nil ?_);simp only [pv]
  by_cases h1 : x < 1
  ·obtain ⟨rfl, rfl⟩ := hTC.bad (by omega)
   clear hTC
   iterate 8 go_step
   refine rp ?_;refine p_v (.pointer (some ⟨g5, 0, none⟩)) (exec_index 23 _ _ rfl g5 rfl 0 2 rfl (by decide) _ Tryz.underlying23 Tryz.sizeOf3) ?_;simp only [pv];refine p_d 0 r5.r (.int .i64 x) rfl Tryz.isAgg3 ?_;simp only [pv];refine p_v (.bool true) (lt_t x 1) ?_;simp only [pv];refine p_m ?_;simp only [pv];refine p_s ?_;simp only [pv];refine p_s ?_;simp only [pv];refine p_s ?_;simp only [pv];refine p_k true (.bool true) ?_;simp only [pv];refine p_m ?_;simp only [pv];refine p_s ?_;simp only [pv];refine p_s ?_;simp only [pv];refine p_s ?_;simp only [pv];refine p_s ?_;simp only [pv];refine p_s ?_;simp only [pv];refine p_k true (.bool true) ?_;simp only [pv];refine pw_nil ?_
   iterate 4 go_step
   refine rp ?_;refine p_m ?_;simp only [pv];refine p_v (.int .i64 0) (n_l none 0 0 sl_natsX) ?_;simp only [pv];refine p_v (.bool true) (exec_eql_k .i64 _ _ _ _ rfl 0 0 rfl rfl true rfl) ?_;simp only [pv];refine p_m ?_;simp only [pv];refine p_m ?_;simp only [pv];refine p_v (.bool true) (exec_eql_k .i64 _ _ _ _ rfl 1 1 rfl rfl true rfl) ?_;simp only [pv];refine p_k true (.bool true) ?_;simp only [pv];refine p_m ?_;simp only [pv];refine p_c 9 Tryz.func9 #[] (haw _) ?_;intro z15008 k;simp only [pv];replace sb := kk sb k;clear k;refine p_k true (.bool true) ?_;simp only [pv];refine p_a (pw_nil ?_);simp only [pv]
   go_wp2
   go_ret
   exact ⟨rfl, sb⟩
  ·by_cases h7 : 7 < x
   ·obtain ⟨rfl, rfl⟩ := hTC.bad (by omega)
    clear hTC
    iterate 8 go_step
    refine rp ?_;refine p_v (.pointer (some ⟨g5, 0, none⟩)) (exec_index 23 _ _ rfl g5 rfl 0 2 rfl (by decide) _ Tryz.underlying23 Tryz.sizeOf3) ?_;simp only [pv];refine pw_loadk (by rfl) 3 _ rfl _ (0) rfl r5.r (.int .i64 x) rfl Tryz.isAgg3 ?_;simp only [pv];refine p_v (.bool false) (lt_f x 1) ?_;simp only [pv];refine p_m ?_;simp only [pv];refine p_v (.pointer (some ⟨g5, 0, none⟩)) (exec_index 23 _ _ rfl g5 rfl 0 2 rfl (by decide) _ Tryz.underlying23 Tryz.sizeOf3) ?_;simp only [pv];refine p_d 0 r5.r (.int .i64 x) rfl Tryz.isAgg3 ?_;simp only [pv];refine p_v (.bool true) (gt_t x 7) ?_;simp only [pv];refine p_k false (.bool true) ?_;simp only [pv];refine p_m ?_;simp only [pv];refine p_s ?_;simp only [pv];refine p_s ?_;simp only [pv];refine p_s ?_;simp only [pv];refine p_s ?_;simp only [pv];refine p_s ?_;simp only [pv];refine p_k true (.bool true) ?_;simp only [pv];refine pw_nil ?_
    iterate 4 go_step
    refine rp ?_;refine p_m ?_;simp only [pv];refine p_v (.int .i64 0) (n_l none 0 0 sl_natsX) ?_;simp only [pv];refine p_v (.bool true) (exec_eql_k .i64 _ _ _ _ rfl 0 0 rfl rfl true rfl) ?_;simp only [pv];refine p_m ?_;simp only [pv];refine p_m ?_;simp only [pv];refine p_v (.bool true) (exec_eql_k .i64 _ _ _ _ rfl 1 1 rfl rfl true rfl) ?_;simp only [pv];refine p_k true (.bool true) ?_;simp only [pv];refine p_m ?_;simp only [pv];refine p_c 9 Tryz.func9 #[] (haw _) ?_;intro z15008 k;simp only [pv];replace sb := kk sb k;clear k;refine p_k true (.bool true) ?_;simp only [pv];refine p_a (pw_nil ?_);simp only [pv]
    go_wp2
    go_ret
    exact ⟨rfl, sb⟩
   ·by_cases ht : x < tl
    ·obtain ⟨rfl, rfl⟩ := hTC.bad (by omega)
     clear hTC
     iterate 8 go_step
     refine rp ?_;refine p_v (.pointer (some ⟨g5, 0, none⟩)) (exec_index 23 _ _ rfl g5 rfl 0 2 rfl (by decide) _ Tryz.underlying23 Tryz.sizeOf3) ?_;simp only [pv];refine pw_loadk (by rfl) 3 _ rfl _ (0) rfl r5.r (.int .i64 x) rfl Tryz.isAgg3 ?_;simp only [pv];refine p_v (.bool false) (lt_f x 1) ?_;simp only [pv];refine p_m ?_;simp only [pv];refine p_v (.pointer (some ⟨g5, 0, none⟩)) (exec_index 23 _ _ rfl g5 rfl 0 2 rfl (by decide) _ Tryz.underlying23 Tryz.sizeOf3) ?_;simp only [pv];refine pw_loadk (by rfl) 3 _ rfl _ (0) rfl r5.r (.int .i64 x) rfl Tryz.isAgg3 ?_;simp only [pv];refine p_v (.bool false) (gt_f x 7) ?_;simp only [pv];refine p_k false (.bool false) ?_;simp only [pv];refine p_m ?_;simp only [pv];refine p_m ?_;simp only [pv];refine p_v (.int .i64 tl) (n_l at' tl ct sl_intsX) ?_;simp only [pv];refine p_v (.pointer (some ⟨g5, 0, none⟩)) (exec_index 23 _ _ rfl g5 rfl 0 2 rfl (by decide) _ Tryz.underlying23 Tryz.sizeOf3) ?_;simp only [pv];refine p_d 0 r5.r (.int .i64 x) rfl Tryz.isAgg3 ?_;simp only [pv];refine p_v (.bool true) (gt_t tl x) ?_;simp only [pv];refine p_k false (.bool true) ?_;simp only [pv];refine pw_nil ?_
     iterate 4 go_step
     refine rp ?_;refine p_m ?_;simp only [pv];refine p_v (.int .i64 0) (n_l none 0 0 sl_natsX) ?_;simp only [pv];refine p_v (.bool true) (exec_eql_k .i64 _ _ _ _ rfl 0 0 rfl rfl true rfl) ?_;simp only [pv];refine p_m ?_;simp only [pv];refine p_m ?_;simp only [pv];refine p_v (.bool true) (exec_eql_k .i64 _ _ _ _ rfl 1 1 rfl rfl true rfl) ?_;simp only [pv];refine p_k true (.bool true) ?_;simp only [pv];refine p_m ?_;simp only [pv];refine p_c 9 Tryz.func9 #[] (haw _) ?_;intro z15008 k;simp only [pv];replace sb := kk sb k;clear k;refine p_k true (.bool true) ?_;simp only [pv];refine p_a (pw_nil ?_);simp only [pv]
     go_wp2
     go_ret
     exact ⟨rfl, sb⟩
    ·obtain ⟨gC, rfl, rfl, rC⟩ := hTC.ok (by omega)
     clear hTC
     iterate 8 go_step
     refine rp ?_;refine p_v (.pointer (some ⟨g5, 0, none⟩)) (exec_index 23 _ _ rfl g5 rfl 0 2 rfl (by decide) _ Tryz.underlying23 Tryz.sizeOf3) ?_;simp only [pv];refine pw_loadk (by rfl) 3 _ rfl _ (0) rfl r5.r (.int .i64 x) rfl Tryz.isAgg3 ?_;simp only [pv];refine p_v (.bool false) (lt_f x 1) ?_;simp only [pv];refine p_m ?_;simp only [pv];refine p_v (.pointer (some ⟨g5, 0, none⟩)) (exec_index 23 _ _ rfl g5 rfl 0 2 rfl (by decide) _ Tryz.underlying23 Tryz.sizeOf3) ?_;simp only [pv];refine pw_loadk (by rfl) 3 _ rfl _ (0) rfl r5.r (.int .i64 x) rfl Tryz.isAgg3 ?_;simp only [pv];refine p_v (.bool false) (gt_f x 7) ?_;simp only [pv];refine p_k false (.bool false) ?_;simp only [pv];refine p_m ?_;simp only [pv];refine p_m ?_;simp only [pv];refine p_v (.int .i64 tl) (n_l at' tl ct sl_intsX) ?_;simp only [pv];refine p_v (.pointer (some ⟨g5, 0, none⟩)) (exec_index 23 _ _ rfl g5 rfl 0 2 rfl (by decide) _ Tryz.underlying23 Tryz.sizeOf3) ?_;simp only [pv];refine p_d 0 r5.r (.int .i64 x) rfl Tryz.isAgg3 ?_;simp only [pv];refine p_v (.bool false) (gt_f tl x) ?_;simp only [pv];refine p_k false (.bool false) ?_;simp only [pv];refine pw_nil ?_
     iterate 7 go_step
     refine rp ?_;refine p_m ?_;simp only [pv];refine p_v (.bool true) (exec_eql_k .i64 _ _ _ _ rfl 0 0 rfl rfl true rfl) ?_;simp only [pv];refine p_m ?_;simp only [pv];refine p_m ?_;simp only [pv];refine pw_loadm (by rfl) 27 _ rfl _ 0 rfl r8.r _ (part_all _) _ Tryz.underlying27 rfl size_sm ?_;simp only [pv];refine p_m ?_;simp only [pv];refine p_v (.pointer (some ⟨g5, 0, none⟩)) (exec_index 23 _ _ rfl g5 rfl 0 2 rfl (by decide) _ Tryz.underlying23 Tryz.sizeOf3) ?_;simp only [pv];refine p_d 0 r5.r (.int .i64 x) rfl Tryz.isAgg3 ?_;simp only [pv];refine p_f 20 Tryz.func20 #[.agg (smC (PP : Nat) (QQ : Nat) (GG : Nat)), .slice at' tl ct, .int .i64 x] (hrt (by omega) _ hil) ?_
     rintro _ z16008 ⟨ax, cx, gx, cur, rfl, hnx, hb⟩
     refine ⟨_, rfl, ?_⟩
     simp only [pv]
     have k := Kept.ofBelow hb
     clear hb;replace r5 := k.ro r5;replace r8 := k.ro r8;replace hil := hil.below k.nil;replace rC := k.ro rC;replace sb := kk sb k;clear k;refine p_c 19 Tryz.func19 #[.slice (some ⟨gC, 0, none⟩) nx nx, .slice ax nx cx] (hsa _ gC ax cx gx cur rC hnx) ?_;intro z16009 k;simp only [pv];replace r5 := k.ro r5;replace r8 := k.ro r8;replace hil := hil.below k.nil;replace rC := k.ro rC;replace hnx := hnx.below k.nil;replace sb := kk sb k;clear k;refine p_k true (.bool true) ?_;simp only [pv];refine p_m ?_;simp only [pv];refine pw_callB (by rfl) 9 _ _ rfl Tryz.func9 (by kernel_rfl) #[] rfl _ (haw _) ?_;intro z16012 k;simp only [pv];replace r5 := k.ro r5;replace r8 := k.ro r8;replace hil := hil.below k.nil;replace rC := k.ro rC;replace hnx := hnx.below k.nil;replace sb := kk sb k;clear k;refine p_k true (.bool true) ?_;simp only [pv];refine p_a (pw_nil ?_);simp only [pv]
     go_wp2
     go_ret
     exact ⟨rfl, sb⟩
 ·by_cases hy7 : 7 < y
  ·iterate 4 go_step
   refine rp ?_;refine p_v (.pointer (some ⟨g5, 1, none⟩)) (exec_index 23 _ _ rfl g5 rfl 1 2 rfl (by decide) _ Tryz.underlying23 Tryz.sizeOf3) ?_;simp only [pv];refine pw_loadk (by rfl) 3 _ rfl _ (1) rfl r5.r (.int .i64 y) rfl Tryz.isAgg3 ?_;simp only [pv];refine p_v (.bool false) (lt_f y 0) ?_;simp only [pv];refine p_m ?_;simp only [pv];refine p_v (.pointer (some ⟨g5, 1, none⟩)) (exec_index 23 _ _ rfl g5 rfl 1 2 rfl (by decide) _ Tryz.underlying23 Tryz.sizeOf3) ?_;simp only [pv];refine p_d 1 r5.r (.int .i64 y) rfl Tryz.isAgg3 ?_;simp only [pv];refine p_v (.bool true) (gt_t y 7) ?_;simp only [pv];refine p_k false (.bool true) ?_;simp only [pv];refine p_m ?_;simp only [pv];refine p_s ?_;simp only [pv];refine p_s ?_;simp only [pv];refine p_s ?_;simp only [pv];refine p_k true (.bool true) ?_;simp only [pv];refine pw_nil ?_
   have hz := hA0 (by omega)
   subst hz
   iterate 4 go_step
   refine rp ?_;refine p_l r13.r ?_;simp only [pv];refine p_v (.agg (natC 0)) (exec_build0 _ rfl _ built_nat) ?_;simp only [pv];refine p_v (.bool false) (fun w' => (exec_neq_nat _ _ _ rfl 0 0 rfl rfl w').trans (by rw [neq_same])) (pw_nil ?_);simp only [pv]
   by_cases h1 : x < 1
   ·obtain ⟨rfl, rfl⟩ := hTC.bad (by omega)
    clear hTC
    iterate 8 go_step
    refine rp ?_;refine p_v (.pointer (some ⟨g5, 0, none⟩)) (exec_index 23 _ _ rfl g5 rfl 0 2 rfl (by decide) _ Tryz.underlying23 Tryz.sizeOf3) ?_;simp only [pv];refine p_d 0 r5.r (.int .i64 x) rfl Tryz.isAgg3 ?_;simp only [pv];refine p_v (.bool true) (lt_t x 1) ?_;simp only [pv];refine p_m ?_;simp only [pv];refine p_s ?_;simp only [pv];refine p_s ?_;simp only [pv];refine p_s ?_;simp only [pv];refine p_k true (.bool true) ?_;simp only [pv];refine p_m ?_;simp only [pv];refine p_s ?_;simp only [pv];refine p_s ?_;simp only [pv];refine p_s ?_;simp only [pv];refine p_s ?_;simp only [pv];refine p_s ?_;simp only [pv];refine p_k true (.bool true) ?_;simp only [pv];refine pw_nil ?_
    iterate 4 go_step
    refine rp ?_;refine p_m ?_;simp only [pv];refine p_v (.int .i64 0) (n_l none 0 0 sl_natsX) ?_;simp only [pv];refine p_v (.bool true) (exec_eql_k .i64 _ _ _ _ rfl 0 0 rfl rfl true rfl) ?_;simp only [pv];refine p_m ?_;simp only [pv];refine p_m ?_;simp only [pv];refine p_v (.bool true) (exec_eql_k .i64 _ _ _ _ rfl 1 1 rfl rfl true rfl) ?_;simp only [pv];refine p_k true (.bool true) ?_;simp only [pv];refine p_m ?_;simp only [pv];refine p_c 9 Tryz.func9 #[] (haw _) ?_;intro z15008 k;simp only [pv];replace sb := kk sb k;clear k;refine p_k true (.bool true) ?_;simp only [pv];refine p_a (pw_nil ?_);simp only [pv]
    go_wp2
    go_ret
    exact ⟨rfl, sb⟩
   ·by_cases h7 : 7 < x
    ·obtain ⟨rfl, rfl⟩ := hTC.bad (by omega)
     clear hTC
     iterate 8 go_step
     refine rp ?_;refine p_v (.pointer (some ⟨g5, 0, none⟩)) (exec_index 23 _ _ rfl g5 rfl 0 2 rfl (by decide) _ Tryz.underlying23 Tryz.sizeOf3) ?_;simp only [pv];refine pw_loadk (by rfl) 3 _ rfl _ (0) rfl r5.r (.int .i64 x) rfl Tryz.isAgg3 ?_;simp only [pv];refine p_v (.bool false) (lt_f x 1) ?_;simp only [pv];refine p_m ?_;simp only [pv];refine p_v (.pointer (some ⟨g5, 0, none⟩)) (exec_index 23 _ _ rfl g5 rfl 0 2 rfl (by decide) _ Tryz.underlying23 Tryz.sizeOf3) ?_;simp only [pv];refine p_d 0 r5.r (.int .i64 x) rfl Tryz.isAgg3 ?_;simp only [pv];refine p_v (.bool true) (gt_t x 7) ?_;simp only [pv];refine p_k false (.bool true) ?_;simp only [pv];refine p_m ?_;simp only [pv];refine p_s ?_;simp only [pv];refine p_s ?_;simp only [pv];refine p_s ?_;simp only [pv];refine p_s ?_;simp only [pv];refine p_s ?_;simp only [pv];refine p_k true (.bool true) ?_;simp only [pv];refine pw_nil ?_
     iterate 4 go_step
     refine rp ?_;refine p_m ?_;simp only [pv];refine p_v (.int .i64 0) (n_l none 0 0 sl_natsX) ?_;simp only [pv];refine p_v (.bool true) (exec_eql_k .i64 _ _ _ _ rfl 0 0 rfl rfl true rfl) ?_;simp only [pv];refine p_m ?_;simp only [pv];refine p_m ?_;simp only [pv];refine p_v (.bool true) (exec_eql_k .i64 _ _ _ _ rfl 1 1 rfl rfl true rfl) ?_;simp only [pv];refine p_k true (.bool true) ?_;simp only [pv];refine p_m ?_;simp only [pv];refine p_c 9 Tryz.func9 #[] (haw _) ?_;intro z15008 k;simp only [pv];replace sb := kk sb k;clear k;refine p_k true (.bool true) ?_;simp only [pv];refine p_a (pw_nil ?_);simp only [pv]
     go_wp2
     go_ret
     exact ⟨rfl, sb⟩
    ·by_cases ht : x < tl
     ·obtain ⟨rfl, rfl⟩ := hTC.bad (by omega)
      clear hTC
      iterate 8 go_step
      refine rp ?_;refine p_v (.pointer (some ⟨g5, 0, none⟩)) (exec_index 23 _ _ rfl g5 rfl 0 2 rfl (by decide) _ Tryz.underlying23 Tryz.sizeOf3) ?_;simp only [pv];refine pw_loadk (by rfl) 3 _ rfl _ (0) rfl r5.r (.int .i64 x) rfl Tryz.isAgg3 ?_;simp only [pv];refine p_v (.bool false) (lt_f x 1) ?_;simp only [pv];refine p_m ?_;simp only [pv];refine p_v (.pointer (some ⟨g5, 0, none⟩)) (exec_index 23 _ _ rfl g5 rfl 0 2 rfl (by decide) _ Tryz.underlying23 Tryz.sizeOf3) ?_;simp only [pv];refine pw_loadk (by rfl) 3 _ rfl _ (0) rfl r5.r (.int .i64 x) rfl Tryz.isAgg3 ?_;simp only [pv];refine p_v (.bool false) (gt_f x 7) ?_;simp only [pv];refine p_k false (.bool false) ?_;simp only [pv];refine p_m ?_;simp only [pv];refine p_m ?_;simp only [pv];refine p_v (.int .i64 tl) (n_l at' tl ct sl_intsX) ?_;simp only [pv];refine p_v (.pointer (some ⟨g5, 0, none⟩)) (exec_index 23 _ _ rfl g5 rfl 0 2 rfl (by decide) _ Tryz.underlying23 Tryz.sizeOf3) ?_;simp only [pv];refine p_d 0 r5.r (.int .i64 x) rfl Tryz.isAgg3 ?_;simp only [pv];refine p_v (.bool true) (gt_t tl x) ?_;simp only [pv];refine p_k false (.bool true) ?_;simp only [pv];refine pw_nil ?_
      iterate 4 go_step
      refine rp ?_;refine p_m ?_;simp only [pv];refine p_v (.int .i64 0) (n_l none 0 0 sl_natsX) ?_;simp only [pv];refine p_v (.bool true) (exec_eql_k .i64 _ _ _ _ rfl 0 0 rfl rfl true rfl) ?_;simp only [pv];refine p_m ?_;simp only [pv];refine p_m ?_;simp only [pv];refine p_v (.bool true) (exec_eql_k .i64 _ _ _ _ rfl 1 1 rfl rfl true rfl) ?_;simp only [pv];refine p_k true (.bool true) ?_;simp only [pv];refine p_m ?_;simp only [pv];refine p_c 9 Tryz.func9 #[] (haw _) ?_;intro z15008 k;simp only [pv];replace sb := kk sb k;clear k;refine p_k true (.bool true) ?_;simp only [pv];refine p_a (pw_nil ?_);simp only [pv]
      go_wp2
      go_ret
      exact ⟨rfl, sb⟩
     ·obtain ⟨gC, rfl, rfl, rC⟩ := hTC.ok (by omega)
      clear hTC
      iterate 8 go_step
      refine rp ?_;refine p_v (.pointer (some ⟨g5, 0, none⟩)) (exec_index 23 _ _ rfl g5 rfl 0 2 rfl (by decide) _ Tryz.underlying23 Tryz.sizeOf3) ?_;simp only [pv];refine pw_loadk (by rfl) 3 _ rfl _ (0) rfl r5.r (.int .i64 x) rfl Tryz.isAgg3 ?_;simp only [pv];refine p_v (.bool false) (lt_f x 1) ?_;simp only [pv];refine p_m ?_;simp only [pv];refine p_v (.pointer (some ⟨g5, 0, none⟩)) (exec_index 23 _ _ rfl g5 rfl 0 2 rfl (by decide) _ Tryz.underlying23 Tryz.sizeOf3) ?_;simp only [pv];refine pw_loadk (by rfl) 3 _ rfl _ (0) rfl r5.r (.int .i64 x) rfl Tryz.isAgg3 ?_;simp only [pv];refine p_v (.bool false) (gt_f x 7) ?_;simp only [pv];refine p_k false (.bool false) ?_;simp only [pv];refine p_m ?_;simp only [pv];refine p_m ?_;simp only [pv];refine p_v (.int .i64 tl) (n_l at' tl ct sl_intsX) ?_;simp only [pv];refine p_v (.pointer (some ⟨g5, 0, none⟩)) (exec_index 23 _ _ rfl g5 rfl 0 2 rfl (by decide) _ Tryz.underlying23 Tryz.sizeOf3) ?_;simp only [pv];refine p_d 0 r5.r (.int .i64 x) rfl Tryz.isAgg3 ?_;simp only [pv];refine p_v (.bool false) (gt_f tl x) ?_;simp only [pv];refine p_k false (.bool false) ?_;simp only [pv];refine pw_nil ?_
      iterate 7 go_step
      refine rp ?_;refine p_m ?_;simp only [pv];refine p_v (.bool true) (exec_eql_k .i64 _ _ _ _ rfl 0 0 rfl rfl true rfl) ?_;simp only [pv];refine p_m ?_;simp only [pv];refine p_m ?_;simp only [pv];refine pw_loadm (by rfl) 27 _ rfl _ 0 rfl r8.r _ (part_all _) _ Tryz.underlying27 rfl size_sm ?_;simp only [pv];refine p_m ?_;simp only [pv];refine p_v (.pointer (some ⟨g5, 0, none⟩)) (exec_index 23 _ _ rfl g5 rfl 0 2 rfl (by decide) _ Tryz.underlying23 Tryz.sizeOf3) ?_;simp only [pv];refine p_d 0 r5.r (.int .i64 x) rfl Tryz.isAgg3 ?_;simp only [pv];refine p_f 20 Tryz.func20 #[.agg (smC (PP : Nat) (QQ : Nat) (GG : Nat)), .slice at' tl ct, .int .i64 x] (hrt (by omega) _ hil) ?_
      rintro _ z16008 ⟨ax, cx, gx, cur, rfl, hnx, hb⟩
      refine ⟨_, rfl, ?_⟩
      simp only [pv]
      have k := Kept.ofBelow hb
      clear hb;replace r5 := k.ro r5;replace r8 := k.ro r8;replace hil := hil.below k.nil;replace rC := k.ro rC;replace sb := kk sb k;clear k;refine p_c 19 Tryz.func19 #[.slice (some ⟨gC, 0, none⟩) nx nx, .slice ax nx cx] (hsa _ gC ax cx gx cur rC hnx) ?_;intro z16009 k;simp only [pv];replace r5 := k.ro r5;replace r8 := k.ro r8;replace hil := hil.below k.nil;replace rC := k.ro rC;replace hnx := hnx.below k.nil;replace sb := kk sb k;clear k;refine p_k true (.bool true) ?_;simp only [pv];refine p_m ?_;simp only [pv];refine pw_callB (by rfl) 9 _ _ rfl Tryz.func9 (by kernel_rfl) #[] rfl _ (haw _) ?_;intro z16012 k;simp only [pv];replace r5 := k.ro r5;replace r8 := k.ro r8;replace hil := hil.below k.nil;replace rC := k.ro rC;replace hnx := hnx.below k.nil;replace sb := kk sb k;clear k;refine p_k true (.bool true) ?_;simp only [pv];refine p_a (pw_nil ?_);simp only [pv]
      go_wp2
      go_ret
      exact ⟨rfl, sb⟩
  ·by_cases hn7 : 7 < n
   ·iterate 4 go_step
    refine rp ?_;refine p_v (.pointer (some ⟨g5, 1, none⟩)) (exec_index 23 _ _ rfl g5 rfl 1 2 rfl (by decide) _ Tryz.underlying23 Tryz.sizeOf3) ?_;simp only [pv];refine pw_loadk (by rfl) 3 _ rfl _ (1) rfl r5.r (.int .i64 y) rfl Tryz.isAgg3 ?_;simp only [pv];refine p_v (.bool false) (lt_f y 0) ?_;simp only [pv];refine p_m ?_;simp only [pv];refine p_v (.pointer (some ⟨g5, 1, none⟩)) (exec_index 23 _ _ rfl g5 rfl 1 2 rfl (by decide) _ Tryz.underlying23 Tryz.sizeOf3) ?_;simp only [pv];refine p_d 1 r5.r (.int .i64 y) rfl Tryz.isAgg3 ?_;simp only [pv];refine p_v (.bool false) (gt_f y 7) ?_;simp only [pv];refine p_k false (.bool false) ?_;simp only [pv];refine p_m ?_;simp only [pv];refine p_m ?_;simp only [pv];refine p_v (.int .i64 n) (n_l ab n c sl_natsX) ?_;simp only [pv];refine p_v (.bool true) (gt_t n 7) ?_;simp only [pv];refine p_k false (.bool true) ?_;simp only [pv];refine pw_nil ?_
    have hz := hA0 (by omega)
    subst hz
    iterate 4 go_step
    refine rp ?_;refine p_l r13.r ?_;simp only [pv];refine p_v (.agg (natC 0)) (exec_build0 _ rfl _ built_nat) ?_;simp only [pv];refine p_v (.bool false) (fun w' => (exec_neq_nat _ _ _ rfl 0 0 rfl rfl w').trans (by rw [neq_same])) (pw_nil ?_);simp only [pv]
    by_cases h1 : x < 1
    ·obtain ⟨rfl, rfl⟩ := hTC.bad (by omega)
     clear hTC
     iterate 8 go_step
     refine rp ?_;refine p_v (.pointer (some ⟨g5, 0, none⟩)) (exec_index 23 _ _ rfl g5 rfl 0 2 rfl (by decide) _ Tryz.underlying23 Tryz.sizeOf3) ?_;simp only [pv];refine p_d 0 r5.r (.int .i64 x) rfl Tryz.isAgg3 ?_;simp only [pv];refine p_v (.bool true) (lt_t x 1) ?_;simp only [pv];refine p_m ?_;simp only [pv];refine p_s ?_;simp only [pv];refine p_s ?_;simp only [pv];refine p_s ?_;simp only [pv];refine p_k true (.bool true) ?_;simp only [pv];refine p_m ?_;simp only [pv];refine p_s ?_;simp only [pv];refine p_s ?_;simp only [pv];refine p_s ?_;simp only [pv];refine p_s ?_;simp only [pv];refine p_s ?_;simp only [pv];refine p_k true (.bool true) ?_;simp only [pv];refine pw_nil ?_
     iterate 4 go_step
     refine rp ?_;refine p_m ?_;simp only [pv];refine p_v (.int .i64 0) (n_l none 0 0 sl_natsX) ?_;simp only [pv];refine p_v (.bool true) (exec_eql_k .i64 _ _ _ _ rfl 0 0 rfl rfl true rfl) ?_;simp only [pv];refine p_m ?_;simp only [pv];refine p_m ?_;simp only [pv];refine p_v (.bool true) (exec_eql_k .i64 _ _ _ _ rfl 1 1 rfl rfl true rfl) ?_;simp only [pv];refine p_k true (.bool true) ?_;simp only [pv];refine p_m ?_;simp only [pv];refine p_c 9 Tryz.func9 #[] (haw _) ?_;intro z15008 k;simp only [pv];replace sb := kk sb k;clear k;refine p_k true (.bool true) ?_;simp only [pv];refine p_a (pw_nil ?_);simp only [pv]
     go_wp2
     go_ret
     exact ⟨rfl, sb⟩
    ·by_cases h7 : 7 < x
     ·obtain ⟨rfl, rfl⟩ := hTC.bad (by omega)
      clear hTC
      iterate 8 go_step
      refine rp ?_;refine p_v (.pointer (some ⟨g5, 0, none⟩)) (exec_index 23 _ _ rfl g5 rfl 0 2 rfl (by decide) _ Tryz.underlying23 Tryz.sizeOf3) ?_;simp only [pv];refine pw_loadk (by rfl) 3 _ rfl _ (0) rfl r5.r (.int .i64 x) rfl Tryz.isAgg3 ?_;simp only [pv];refine p_v (.bool false) (lt_f x 1) ?_;simp only [pv];refine p_m ?_;simp only [pv];refine p_v (.pointer (some ⟨g5, 0, none⟩)) (exec_index 23 _ _ rfl g5 rfl 0 2 rfl (by decide) _ Tryz.underlying23 Tryz.sizeOf3) ?_;simp only [pv];refine p_d 0 r5.r (.int .i64 x) rfl Tryz.isAgg3 ?_;simp only [pv];refine p_v (.bool true) (gt_t x 7) ?_;simp only [pv];refine p_k false (.bool true) ?_;simp only [pv];refine p_m ?_;simp only [pv];refine p_s ?_;simp only [pv];refine p_s ?_;simp only [pv];refine p_s ?_;simp only [pv];refine p_s ?_;simp only [pv];refine p_s ?_;simp only [pv];refine p_k true (.bool true) ?_;simp only [pv];refine pw_nil ?_
      iterate 4 go_step
      refine rp ?_;refine p_m ?_;simp only [pv];refine p_v (.int .i64 0) (n_l none 0 0 sl_natsX) ?_;simp only [pv];refine p_v (.bool true) (exec_eql_k .i64 _ _ _ _ rfl 0 0 rfl rfl true rfl) ?_;simp only [pv];refine p_m ?_;simp only [pv];refine p_m ?_;simp only [pv];refine p_v (.bool true) (exec_eql_k .i64 _ _ _ _ rfl 1 1 rfl rfl true rfl) ?_;simp only [pv];refine p_k true (.bool true) ?_;simp only [pv];refine p_m ?_;simp only [pv];refine p_c 9 Tryz.func9 #[] (haw _) ?_;intro z15008 k;simp only [pv];replace sb := kk sb k;clear k;refine p_k true (.bool true) ?_;simp only [pv];refine p_a (pw_nil ?_);simp only [pv]
      go_wp2
      go_ret
      exact ⟨rfl, sb⟩
     ·by_cases ht : x < tl
      ·obtain ⟨rfl, rfl⟩ := hTC.bad (by omega)
       clear hTC
       iterate 8 go_step
       refine rp ?_;refine p_v (.pointer (some ⟨g5, 0, none⟩)) (exec_index 23 _ _ rfl g5 rfl 0 2 rfl (by decide) _ Tryz.underlying23 Tryz.sizeOf3) ?_;simp only [pv];refine pw_loadk (by rfl) 3 _ rfl _ (0) rfl r5.r (.int .i64 x) rfl Tryz.isAgg3 ?_;simp only [pv];refine p_v (.bool false) (lt_f x 1) ?_;simp only [pv];refine p_m ?_;simp only [pv];refine p_v (.pointer (some ⟨g5, 0, none⟩)) (exec_index 23 _ _ rfl g5 rfl 0 2 rfl (by decide) _ Tryz.underlying23 Tryz.sizeOf3) ?_;simp only [pv];refine pw_loadk (by rfl) 3 _ rfl _ (0) rfl r5.r (.int .i64 x) rfl Tryz.isAgg3 ?_;simp only [pv];refine p_v (.bool false) (gt_f x 7) ?_;simp only [pv];refine p_k false (.bool false) ?_;simp only [pv];refine p_m ?_;simp only [pv];refine p_m ?_;simp only [pv];refine p_v (.int .i64 tl) (n_l at' tl ct sl_intsX) ?_;simp only [pv];refine p_v (.pointer (some ⟨g5, 0, none⟩)) (exec_index 23 _ _ rfl g5 rfl 0 2 rfl (by decide) _ Tryz.underlying23 Tryz.sizeOf3) ?_;simp only [pv];refine p_d 0 r5.r (.int .i64 x) rfl Tryz.isAgg3 ?_;simp only [pv];refine p_v (.bool true) (gt_t tl x) ?_;simp only [pv];refine p_k false (.bool true) ?_;simp only [pv];refine pw_nil ?_
       iterate 4 go_step
       refine rp ?_;refine p_m ?_;simp only [pv];refine p_v (.int .i64 0) (n_l none 0 0 sl_natsX) ?_;simp only [pv];refine p_v (.bool true) (exec_eql_k .i64 _ _ _ _ rfl 0 0 rfl rfl true rfl) ?_;simp only [pv];refine p_m ?_;simp only [pv];refine p_m ?_;simp only [pv];refine p_v (.bool true) (exec_eql_k .i64 _ _ _ _ rfl 1 1 rfl rfl true rfl) ?_;simp only [pv];refine p_k true (.bool true) ?_;simp only [pv];refine p_m ?_;simp only [pv];refine p_c 9 Tryz.func9 #[] (haw _) ?_;intro z15008 k;simp only [pv];replace sb := kk sb k;clear k;refine p_k true (.bool true) ?_;simp only [pv];refine p_a (pw_nil ?_);simp only [pv]
       go_wp2
       go_ret
       exact ⟨rfl, sb⟩
      ·obtain ⟨gC, rfl, rfl, rC⟩ := hTC.ok (by omega)
       clear hTC
       iterate 8 go_step
       refine rp ?_;refine p_v (.pointer (some ⟨g5, 0, none⟩)) (exec_index 23 _ _ rfl g5 rfl 0 2 rfl (by decide) _ Tryz.underlying23 Tryz.sizeOf3) ?_;simp only [pv];refine pw_loadk (by rfl) 3 _ rfl _ (0) rfl r5.r (.int .i64 x) rfl Tryz.isAgg3 ?_;simp only [pv];refine p_v (.bool false) (lt_f x 1) ?_;simp only [pv];refine p_m ?_;simp only [pv];refine p_v (.pointer (some ⟨g5, 0, none⟩)) (exec_index 23 _ _ rfl g5 rfl 0 2 rfl (by decide) _ Tryz.underlying23 Tryz.sizeOf3) ?_;simp only [pv];refine pw_loadk (by rfl) 3 _ rfl _ (0) rfl r5.r (.int .i64 x) rfl Tryz.isAgg3 ?_;simp only [pv];refine p_v (.bool false) (gt_f x 7) ?_;simp only [pv];refine p_k false (.bool false) ?_;simp only [pv];refine p_m ?_;simp only [pv];refine p_m ?_;simp only [pv];refine p_v (.int .i64 tl) (n_l at' tl ct sl_intsX) ?_;simp only [pv];refine p_v (.pointer (some ⟨g5, 0, none⟩)) (exec_index 23 _ _ rfl g5 rfl 0 2 rfl (by decide) _ Tryz.underlying23 Tryz.sizeOf3) ?_;simp only [pv];refine p_d 0 r5.r (.int .i64 x) rfl Tryz.isAgg3 ?_;simp only [pv];refine p_v (.bool false) (gt_f tl x) ?_;simp only [pv];refine p_k false (.bool false) ?_;simp only [pv];refine pw_nil ?_
       iterate 7 go_step
       refine rp ?_;refine p_m ?_;simp only [pv];refine p_v (.bool true) (exec_eql_k .i64 _ _ _ _ rfl 0 0 rfl rfl true rfl) ?_;simp only [pv];refine p_m ?_;simp only [pv];refine p_m ?_;simp only [pv];refine pw_loadm (by rfl) 27 _ rfl _ 0 rfl r8.r _ (part_all _) _ Tryz.underlying27 rfl size_sm ?_;simp only [pv];refine p_m ?_;simp only [pv];refine p_v (.pointer (some ⟨g5, 0, none⟩)) (exec_index 23 _ _ rfl g5 rfl 0 2 rfl (by decide) _ Tryz.underlying23 Tryz.sizeOf3) ?_;simp only [pv];refine p_d 0 r5.r (.int .i64 x) rfl Tryz.isAgg3 ?_;simp only [pv];refine p_f 20 Tryz.func20 #[.agg (smC (PP : Nat) (QQ : Nat) (GG : Nat)), .slice at' tl ct, .int .i64 x] (hrt (by omega) _ hil) ?_
       rintro _ z16008 ⟨ax, cx, gx, cur, rfl, hnx, hb⟩
       refine ⟨_, rfl, ?_⟩
       simp only [pv]
       have k := Kept.ofBelow hb
       clear hb;replace r5 := k.ro r5;replace r8 := k.ro r8;replace hil := hil.below k.nil;replace rC := k.ro rC;replace sb := kk sb k;clear k;refine p_c 19 Tryz.func19 #[.slice (some ⟨gC, 0, none⟩) nx nx, .slice ax nx cx] (hsa _ gC ax cx gx cur rC hnx) ?_;intro z16009 k;simp only [pv];replace r5 := k.ro r5;replace r8 := k.ro r8;replace hil := hil.below k.nil;replace rC := k.ro rC;replace hnx := hnx.below k.nil;replace sb := kk sb k;clear k;refine p_k true (.bool true) ?_;simp only [pv];refine p_m ?_;simp only [pv];refine pw_callB (by rfl) 9 _ _ rfl Tryz.func9 (by kernel_rfl) #[] rfl _ (haw _) ?_;intro z16012 k;simp only [pv];replace r5 := k.ro r5;replace r8 := k.ro r8;replace hil := hil.below k.nil;replace rC := k.ro rC;replace hnx := hnx.below k.nil;replace sb := kk sb k;clear k;refine p_k true (.bool true) ?_;simp only [pv];refine p_a (pw_nil ?_);simp only [pv]
       go_wp2
       go_ret
       exact ⟨rfl, sb⟩
   ·iterate 4 go_step
    refine rp ?_;refine p_v (.pointer (some ⟨g5, 1, none⟩)) (exec_index 23 _ _ rfl g5 rfl 1 2 rfl (by decide) _ Tryz.underlying23 Tryz.sizeOf3) ?_;simp only [pv];refine pw_loadk (by rfl) 3 _ rfl _ (1) rfl r5.r (.int .i64 y) rfl Tryz.isAgg3 ?_;simp only [pv];refine p_v (.bool false) (lt_f y 0) ?_;simp only [pv];refine p_m ?_;simp only [pv];refine p_v (.pointer (some ⟨g5, 1, none⟩)) (exec_index 23 _ _ rfl g5 rfl 1 2 rfl (by decide) _ Tryz.underlying23 Tryz.sizeOf3) ?_;simp only [pv];refine p_d 1 r5.r (.int .i64 y) rfl Tryz.isAgg3 ?_;simp only [pv];refine p_v (.bool false) (gt_f y 7) ?_;simp only [pv];refine p_k false (.bool false) ?_;simp only [pv];refine p_m ?_;simp only [pv];refine p_m ?_;simp only [pv];refine p_v (.int .i64 n) (n_l ab n c sl_natsX) ?_;simp only [pv];refine p_v (.bool false) (gt_f n 7) ?_;simp only [pv];refine p_k false (.bool false) ?_;simp only [pv];refine pw_nil ?_
    have hra := hA1 (by omega)
    iterate 4 go_step
    refine wp_region_qw (by kernel_rfl) (by kernel_rfl) ?_;refine qw_load (by rfl) 40 _ rfl _ rfl r13 4 _ Tryz.underlying40 size_nat ?_;simp only [pv];refine qw_loadm (by rfl) 27 _ rfl _ (0) rfl r8 (smC (PP : Nat) (QQ : Nat) (GG : Nat)) (part_all _) _ Tryz.underlying27 rfl size_sm ?_;simp only [pv];refine q_m ?_;simp only [pv];refine q_v (.pointer (some ⟨g5, 1, none⟩)) (exec_index 23 _ _ rfl g5 rfl 1 2 rfl (by decide) _ Tryz.underlying23 Tryz.sizeOf3) ?_;simp only [pv];refine qw_loadc (by rfl) 3 _ rfl _ (1) rfl r5 (.int .i64 y) rfl Tryz.isAgg3 ?_;simp only [pv];refine q_k 18 Tryz.func18 #[.agg (smC (PP : Nat) (QQ : Nat) (GG : Nat)), .slice ab n c, .int .i64 y] (fun w' hb => hra w' (below_on sb (Nat.le_refl _) hb)) ?_;simp only [pv];refine q_c 17 Tryz.func17 #[.int .i64 (AT : Nat)] hof ?_;simp only [pv];refine q_v (.bool false) (fun w' => (exec_neq_nat _ _ _ rfl AT AT rfl rfl w').trans (by rw [neq_same])) ?_;simp only [pv];refine qw_nil ?_;intro w6 hqb;replace r5 := r5.belowAll hqb;replace r8 := r8.belowAll hqb;replace r13 := r13.belowAll hqb;replace hil := hil.below hqb;replace hTC := hTC.below hqb;replace sb := b_o sb hqb;clear hqb
    by_cases h1 : x < 1
    ·obtain ⟨rfl, rfl⟩ := hTC.bad (by omega)
     clear hTC
     iterate 8 go_step
     refine rp ?_;refine p_v (.pointer (some ⟨g5, 0, none⟩)) (exec_index 23 _ _ rfl g5 rfl 0 2 rfl (by decide) _ Tryz.underlying23 Tryz.sizeOf3) ?_;simp only [pv];refine p_d 0 r5.r (.int .i64 x) rfl Tryz.isAgg3 ?_;simp only [pv];refine p_v (.bool true) (lt_t x 1) ?_;simp only [pv];refine p_m ?_;simp only [pv];refine p_s ?_;simp only [pv];refine p_s ?_;simp only [pv];refine p_s ?_;simp only [pv];refine p_k true (.bool true) ?_;simp only [pv];refine p_m ?_;simp only [pv];refine p_s ?_;simp only [pv];refine p_s ?_;simp only [pv];refine p_s ?_;simp only [pv];refine p_s ?_;simp only [pv];refine p_s ?_;simp only [pv];refine p_k true (.bool true) ?_;simp only [pv];refine pw_nil ?_
     iterate 4 go_step
     refine rp ?_;refine p_m ?_;simp only [pv];refine p_v (.int .i64 0) (n_l none 0 0 sl_natsX) ?_;simp only [pv];refine p_v (.bool true) (exec_eql_k .i64 _ _ _ _ rfl 0 0 rfl rfl true rfl) ?_;simp only [pv];refine p_m ?_;simp only [pv];refine p_m ?_;simp only [pv];refine p_v (.bool true) (exec_eql_k .i64 _ _ _ _ rfl 1 1 rfl rfl true rfl) ?_;simp only [pv];refine p_k true (.bool true) ?_;simp only [pv];refine p_m ?_;simp only [pv];refine p_c 9 Tryz.func9 #[] (haw _) ?_;intro z15008 k;simp only [pv];replace sb := kk sb k;clear k;refine p_k true (.bool true) ?_;simp only [pv];refine p_a (pw_nil ?_);simp only [pv]
     go_wp2
     go_ret
     exact ⟨rfl, sb⟩
    ·by_cases h7 : 7 < x
     ·obtain ⟨rfl, rfl⟩ := hTC.bad (by omega)
      clear hTC
      iterate 8 go_step
      refine rp ?_;refine p_v (.pointer (some ⟨g5, 0, none⟩)) (exec_index 23 _ _ rfl g5 rfl 0 2 rfl (by decide) _ Tryz.underlying23 Tryz.sizeOf3) ?_;simp only [pv];refine pw_loadk (by rfl) 3 _ rfl _ (0) rfl r5.r (.int .i64 x) rfl Tryz.isAgg3 ?_;simp only [pv];refine p_v (.bool false) (lt_f x 1) ?_;simp only [pv];refine p_m ?_;simp only [pv];refine p_v (.pointer (some ⟨g5, 0, none⟩)) (exec_index 23 _ _ rfl g5 rfl 0 2 rfl (by decide) _ Tryz.underlying23 Tryz.sizeOf3) ?_;simp only [pv];refine p_d 0 r5.r (.int .i64 x) rfl Tryz.isAgg3 ?_;simp only [pv];refine p_v (.bool true) (gt_t x 7) ?_;simp only [pv];refine p_k false (.bool true) ?_;simp only [pv];refine p_m ?_;simp only [pv];refine p_s ?_;simp only [pv];refine p_s ?_;simp only [pv];refine p_s ?_;simp only [pv];refine p_s ?_;simp only [pv];refine p_s ?_;simp only [pv];refine p_k true (.bool true) ?_;simp only [pv];refine pw_nil ?_
      iterate 4 go_step
      refine rp ?_;refine p_m ?_;simp only [pv];refine p_v (.int .i64 0) (n_l none 0 0 sl_natsX) ?_;simp only [pv];refine p_v (.bool true) (exec_eql_k .i64 _ _ _ _ rfl 0 0 rfl rfl true rfl) ?_;simp only [pv];refine p_m ?_;simp only [pv];refine p_m ?_;simp only [pv];refine p_v (.bool true) (exec_eql_k .i64 _ _ _ _ rfl 1 1 rfl rfl true rfl) ?_;simp only [pv];refine p_k true (.bool true) ?_;simp only [pv];refine p_m ?_;simp only [pv];refine p_c 9 Tryz.func9 #[] (haw _) ?_;intro z15008 k;simp only [pv];replace sb := kk sb k;clear k;refine p_k true (.bool true) ?_;simp only [pv];refine p_a (pw_nil ?_);simp only [pv]
      go_wp2
      go_ret
      exact ⟨rfl, sb⟩
     ·by_cases ht : x < tl
      ·obtain ⟨rfl, rfl⟩ := hTC.bad (by omega)
       clear hTC
       iterate 8 go_step
       refine rp ?_;refine p_v (.pointer (some ⟨g5, 0, none⟩)) (exec_index 23 _ _ rfl g5 rfl 0 2 rfl (by decide) _ Tryz.underlying23 Tryz.sizeOf3) ?_;simp only [pv];refine pw_loadk (by rfl) 3 _ rfl _ (0) rfl r5.r (.int .i64 x) rfl Tryz.isAgg3 ?_;simp only [pv];refine p_v (.bool false) (lt_f x 1) ?_;simp only [pv];refine p_m ?_;simp only [pv];refine p_v (.pointer (some ⟨g5, 0, none⟩)) (exec_index 23 _ _ rfl g5 rfl 0 2 rfl (by decide) _ Tryz.underlying23 Tryz.sizeOf3) ?_;simp only [pv];refine pw_loadk (by rfl) 3 _ rfl _ (0) rfl r5.r (.int .i64 x) rfl Tryz.isAgg3 ?_;simp only [pv];refine p_v (.bool false) (gt_f x 7) ?_;simp only [pv];refine p_k false (.bool false) ?_;simp only [pv];refine p_m ?_;simp only [pv];refine p_m ?_;simp only [pv];refine p_v (.int .i64 tl) (n_l at' tl ct sl_intsX) ?_;simp only [pv];refine p_v (.pointer (some ⟨g5, 0, none⟩)) (exec_index 23 _ _ rfl g5 rfl 0 2 rfl (by decide) _ Tryz.underlying23 Tryz.sizeOf3) ?_;simp only [pv];refine p_d 0 r5.r (.int .i64 x) rfl Tryz.isAgg3 ?_;simp only [pv];refine p_v (.bool true) (gt_t tl x) ?_;simp only [pv];refine p_k false (.bool true) ?_;simp only [pv];refine pw_nil ?_
       iterate 4 go_step
       refine rp ?_;refine p_m ?_;simp only [pv];refine p_v (.int .i64 0) (n_l none 0 0 sl_natsX) ?_;simp only [pv];refine p_v (.bool true) (exec_eql_k .i64 _ _ _ _ rfl 0 0 rfl rfl true rfl) ?_;simp only [pv];refine p_m ?_;simp only [pv];refine p_m ?_;simp only [pv];refine p_v (.bool true) (exec_eql_k .i64 _ _ _ _ rfl 1 1 rfl rfl true rfl) ?_;simp only [pv];refine p_k true (.bool true) ?_;simp only [pv];refine p_m ?_;simp only [pv];refine p_c 9 Tryz.func9 #[] (haw _) ?_;intro z15008 k;simp only [pv];replace sb := kk sb k;clear k;refine p_k true (.bool true) ?_;simp only [pv];refine p_a (pw_nil ?_);simp only [pv]
       go_wp2
       go_ret
       exact ⟨rfl, sb⟩
      ·obtain ⟨gC, rfl, rfl, rC⟩ := hTC.ok (by omega)
       clear hTC
       iterate 8 go_step
       refine rp ?_;refine p_v (.pointer (some ⟨g5, 0, none⟩)) (exec_index 23 _ _ rfl g5 rfl 0 2 rfl (by decide) _ Tryz.underlying23 Tryz.sizeOf3) ?_;simp only [pv];refine pw_loadk (by rfl) 3 _ rfl _ (0) rfl r5.r (.int .i64 x) rfl Tryz.isAgg3 ?_;simp only [pv];refine p_v (.bool false) (lt_f x 1) ?_;simp only [pv];refine p_m ?_;simp only [pv];refine p_v (.pointer (some ⟨g5, 0, none⟩)) (exec_index 23 _ _ rfl g5 rfl 0 2 rfl (by decide) _ Tryz.underlying23 Tryz.sizeOf3) ?_;simp only [pv];refine pw_loadk (by rfl) 3 _ rfl _ (0) rfl r5.r (.int .i64 x) rfl Tryz.isAgg3 ?_;simp only [pv];refine p_v (.bool false) (gt_f x 7) ?_;simp only [pv];refine p_k false (.bool false) ?_;simp only [pv];refine p_m ?_;simp only [pv];refine p_m ?_;simp only [pv];refine p_v (.int .i64 tl) (n_l at' tl ct sl_intsX) ?_;simp only [pv];refine p_v (.pointer (some ⟨g5, 0, none⟩)) (exec_index 23 _ _ rfl g5 rfl 0 2 rfl (by decide) _ Tryz.underlying23 Tryz.sizeOf3) ?_;simp only [pv];refine p_d 0 r5.r (.int .i64 x) rfl Tryz.isAgg3 ?_;simp only [pv];refine p_v (.bool false) (gt_f tl x) ?_;simp only [pv];refine p_k false (.bool false) ?_;simp only [pv];refine pw_nil ?_
       iterate 7 go_step
       refine rp ?_;refine p_m ?_;simp only [pv];refine p_v (.bool true) (exec_eql_k .i64 _ _ _ _ rfl 0 0 rfl rfl true rfl) ?_;simp only [pv];refine p_m ?_;simp only [pv];refine p_m ?_;simp only [pv];refine pw_loadm (by rfl) 27 _ rfl _ 0 rfl r8.r _ (part_all _) _ Tryz.underlying27 rfl size_sm ?_;simp only [pv];refine p_m ?_;simp only [pv];refine p_v (.pointer (some ⟨g5, 0, none⟩)) (exec_index 23 _ _ rfl g5 rfl 0 2 rfl (by decide) _ Tryz.underlying23 Tryz.sizeOf3) ?_;simp only [pv];refine p_d 0 r5.r (.int .i64 x) rfl Tryz.isAgg3 ?_;simp only [pv];refine p_f 20 Tryz.func20 #[.agg (smC (PP : Nat) (QQ : Nat) (GG : Nat)), .slice at' tl ct, .int .i64 x] (hrt (by omega) _ hil) ?_
       rintro _ z16008 ⟨ax, cx, gx, cur, rfl, hnx, hb⟩
       refine ⟨_, rfl, ?_⟩
       simp only [pv]
       have k := Kept.ofBelow hb
       clear hb;replace r5 := k.ro r5;replace r8 := k.ro r8;replace hil := hil.below k.nil;replace rC := k.ro rC;replace sb := kk sb k;clear k;refine p_c 19 Tryz.func19 #[.slice (some ⟨gC, 0, none⟩) nx nx, .slice ax nx cx] (hsa _ gC ax cx gx cur rC hnx) ?_;intro z16009 k;simp only [pv];replace r5 := k.ro r5;replace r8 := k.ro r8;replace hil := hil.below k.nil;replace rC := k.ro rC;replace hnx := hnx.below k.nil;replace sb := kk sb k;clear k;refine p_k true (.bool true) ?_;simp only [pv];refine p_m ?_;simp only [pv];refine pw_callB (by rfl) 9 _ _ rfl Tryz.func9 (by kernel_rfl) #[] rfl _ (haw _) ?_;intro z16012 k;simp only [pv];replace r5 := k.ro r5;replace r8 := k.ro r8;replace hil := hil.below k.nil;replace rC := k.ro rC;replace hnx := hnx.below k.nil;replace sb := kk sb k;clear k;refine p_k true (.bool true) ?_;simp only [pv];refine p_a (pw_nil ?_);simp only [pv]
       go_wp2
       go_ret
       exact ⟨rfl, sb⟩
theorem walk (a0 : Int) (ab : Option Addr) (n c : Nat) (F : Nat → Nat) (gb ob : Nat) (bcs : Array Value) (tb : TypeId) (x y : Int) (w : World) (_ : -9223372036854775808 ≤ a0 ∧ a0 ≤ 9223372036854775807) (hna : NatsAt w ab n F gb ob bcs tb) (hxb : x ≤ 9223372036854775807) :
  Calls Tryz.prog 3 #[.int .i64 a0, .slice ab n c, .agg #[.int .i64 x, .int .i64 y]] w fun e w' => e = .returned (.bool true) ∧ Below w.heap.size w w' := by
 by_cases h : 9 < n
 ·exact core0 a0 x y n c ab w h
 obtain ⟨f, hp, hq⟩ := smF a0
 have hs := sml14_any a0
 generalize smP a0 = PP at *
 generalize smQ a0 = QQ at *
 generalize smG a0 = GG at *
 haveI : NeZero QQ := ⟨by have := f.big; omega⟩
 have q0 : 0 < QQ := f.rQ.pos
 have hpl := fun w' (hb : Below w.heap.size w w') => (hna.below hb).pl (Q := QQ) (c := c) (by omega)
 have hal := fun w' (hb : Below w.heap.size w w') => rallL (Q := QQ) ab n c F gb ob bcs tb w' (by omega) f.rQ hq (hna.below hb)
 have hma := fun g gr gf w' (hb : Below w.heap.size w w') (hg : GrpAt w' g gr gf PP QQ GG) => cmay_any (c := c) f hg (hna.below hb)
 have hrm := fun w' (hb : Below w.heap.size w w') => rmay14_any ab n c PP QQ GG F gb ob bcs tb w' (by omega) f.rP.two hp q0 hq (hna.below hb)
 have hat := fun g gr gf w' (hb : Below w.heap.size w w') (hg : GrpAt w' g gr gf PP QQ GG) => cat_any (c := c) f hg (hna.below hb) y
 have hA0 : y < 0 ∨ 7 < y ∨ 7 < n → cAt PP F n y = 0 := fun hh => if_neg (by omega)
 have hA1 : 0 ≤ y ∧ y ≤ 7 ∧ n ≤ 7 → ∀ w', Below w.heap.size w w' → Calls Tryz.prog 18 #[.agg (smC (PP : Nat) (QQ : Nat) (GG : Nat)), .slice ab n c, .int .i64 y] w' fun e w2 => e = .returned (.int .i64 (cAt PP F n y : Nat)) ∧ Below w'.heap.size w' w2 := fun hh w' hb => by
  obtain ⟨k, rfl⟩ : ∃ k : Nat, y = k := ⟨y.toNat, by omega⟩
  have e : cAt PP F n (k : Nat) = prd (fun j => F j ^ (k ^ j)) n % PP := by
   unfold cAt
   rw [if_pos hh, Int.toNat_natCast]
  rw [e]
  exact rat14_any ab n c PP QQ GG F gb ob bcs tb k w' hh.2.2 (by omega) f.rP.two hp q0 hq (hna.below hb)
 have hof := fun w' => of14_any (cAt PP F n y) w' (by have := cAt_lt f.rP.two F n y; omega)
 have hll : (fl n F : List (Fin QQ)).length = n := fl_length _ _
 have hCl : ∀ k, GG ^ (pco (fl n F : List (Fin QQ)) k).val % PP < 2 ^ 256 := fun k => Nat.lt_trans (Nat.mod_lt _ (by have := f.rP.two; omega)) f.rP.m
 refine core1 a0 x y x.toNat (fun k => GG ^ (pco (fl n F : List (Fin QQ)) k).val % PP) PP QQ GG n c _ ab (fl n F) _ _ w (by omega) rfl hs hal hll (fun g gr gf w' hb hg => ?_) (fun hx w' {at' ct} hil => ?_) (fun w' gC ax cx gx cur rC hnx => ?_) hma hrm hat hA0 hA1 hof
 ·by_cases h1 : x < 1 ∨ 7 < x
  ·exact (to_no ab n c x h1 hg).mono fun e w2 ⟨h2, h3⟩ => ⟨_, _, h2, ⟨fun _ => ⟨rfl, rfl⟩, fun hh => by omega⟩, h3⟩
  ·obtain ⟨nx, rfl⟩ : ∃ k : Nat, x = k := ⟨x.toNat, by omega⟩
   by_cases ht : nx < (ptrim (fl n F : List (Fin QQ))).length
   ·exact (to_many ab n c (fl n F) nx (by omega) (by omega) ht f.rQ hg (hpl w' hb)).mono fun e w2 ⟨h2, h3⟩ => ⟨_, _, h2, ⟨fun _ => ⟨rfl, rfl⟩, fun hh => by omega⟩, h3⟩
   ·exact (to_ok ab n c (fl n F) nx (by omega) (by omega) (by omega) f.rQ f.rP (Nat.lt_trans f.lt f.rP.m) hg (hpl w' hb)).mono fun e w2 ⟨gC, h2, _, h4, h3⟩ => ⟨_, _, h2, ⟨fun hh => absurd (show _ from ⟨by omega, by omega, by omega⟩) hh, fun _ => ⟨gC, rfl, rfl, h4⟩⟩, h3⟩
 ·obtain ⟨nx, rfl⟩ : ∃ k : Nat, x = k := ⟨x.toNat, by omega⟩
  have := rto14_any _ (ptrim (fl n F : List (Fin QQ))) nx PP GG w' (by omega) (by have := ptrim_le (fl n F : List (Fin QQ)); omega) f.rP.two hp hq hil
  simp only [pco_ptrim] at this
  exact this
 ·by_cases h7 : x.toNat < 9223372036854775808
  ·exact rsame_yes x.toNat x.toNat cx (some ⟨gC, 0, none⟩) ax _ gC 0 gx 0 _ _ _ _ w' h7 (nats_row rC (fun i _ => hCl i)) hnx
  ·exact absurd hxb (by omega)
theorem lifted (os : Os) (started : os.Started) (H : Type) (enc : TypeId × Value → H) :
  ReturnsInHanded {} Tryz.checked os 3 .any (Rows.commitTellsSpec.pre6 enc Tryz.prog Tryz.f3 Rows.commitTellsRow.domain false) (Rows.commitTellsSpec.post enc Tryz.prog Tryz.f3 false true false false) := by
 refine returnsInHanded_of_change (C := Tryz.checked) own started (by kernel_rfl) Tryz.func3
  (ChangeSpec.witness6 (enc := enc) (C := Tryz.checked) false ⟨#[], #[.int .i64 0, .slice none 0 0, .agg #[.int .i64 0, .int .i64 0]], []⟩ 8 (by kernel_rfl) (by kernel_rfl) (by kernel_rfl) (by kernel_rfl)) ?_
 intro W base args ds gs before hval0 hW hcnd _
 have hval : ∀ (j : Nat) t v, Tryz.f3.params[j]? = some t → args[j]? = some v → Value.okWide Tryz.prog W .any base t v := hval0
 have hW' := hW
 obtain ⟨p, q, hA0, hV, rfl, hfz, hnd⟩ := hW
 have hA : DataW.TrodAll enc Tryz.prog W 0 (fun _ => true) true Tryz.f3.params.toList args.toList ds p := hA0
 rw [Tryz.params3] at hA hval
 obtain ⟨v0, vs0, d0, ds0, p0, q0, hargs, rfl, rfl, h0, r0⟩ := trodAll_cons hA
 obtain ⟨v1, vs1, d1, ds1, p1, q1, rfl, rfl, rfl, h1, r1⟩ := trodAll_cons r0
 obtain ⟨v2, vs2, d2, ds2, p2, q2, rfl, rfl, rfl, h2, r2⟩ := trodAll_cons r1
 obtain ⟨rfl, rfl, rfl⟩ := trodAll_nil r2
 obtain rfl : args = #[v0, v1, v2] := by cases args; simp_all
 obtain ⟨rfl, rfl⟩ := trodVars_none hV
 have k0 := h0
 have lt0 := lt_of_trod h0
 obtain ⟨a0, rfl, rfl, rfl, w0⟩ := open_int Tryz.underlying3 (hval 0 3 v0 rfl rfl) h0
 have k1 := h1
 have lt1 := lt_of_trod h1
 obtain ⟨ab1, n1, c1, F1, gb1, ob1, bcs1, tb1, rfl, _, _, hn1⟩ := open_nats (hval 1 22 v1 rfl rfl) h1
 have k2 := h2
 have lt2 := lt_of_trod h2
 obtain ⟨x2, y2, rfl, hx2⟩ := open_i2 (hval 2 23 v2 rfl rfl) h2
 clear hA0 hval0
 refine (walk a0 ab1 n1 c1 F1 gb1 ob1 bcs1 tb1 x2 y2 W (bounds_i64 w0) hn1 hx2).mono fun e W' ⟨he, bel⟩ => ?_
 subst he
 exact ⟨_, rfl, _, _, _, [], _, [], hW', trodAll_mk1 (shut_bool Tryz.underlying4 _), (trodAll_cons_mk (Below.trod laidOut (by kernel_rfl) (of_decide_eq_true (by kernel_rfl)) k0 bel lt0) (trodAll_cons_mk (Below.trod laidOut (by kernel_rfl) (of_decide_eq_true (by kernel_rfl)) k1 bel lt1) (trodAll_cons_mk (Below.trod laidOut (by kernel_rfl) (of_decide_eq_true (by kernel_rfl)) k2 bel lt2) trodAll_mk0))), rfl, bel.frame _, fun h => by cases h⟩
theorem over : Rows.commitTellsRow.holds Tryz.pinned (OpenSpec.ofChange Rows.commitTellsSpec) :=
 OpenClaim.holds_of_wide 3 Tryz.f3 rfl rfl rfl rfl rfl rfl rfl ⟨rfl, rfl, rfl, rfl, rfl⟩ rfl rfl rfl rfl rfl (by kernel_rfl) Tryz.func3 (by kernel_rfl)
  (of_decide_eq_true (by kernel_rfl)) (by unfold Func.isWrapper; first | (rw [if_pos (by decide +kernel)]; kernel_rfl) | (rw [if_neg (by decide +kernel)]; exact ⟨rfl, rfl⟩))
  (fun os started H enc _ => lifted os started H enc)
end commitTellsP
/-- for every number, list of naturals and two numbers: in a small group, of a list of at most 9, the commitments to the polynomial, the commitment to what it is at a place, and whether they may be, are as the document says; no condition. -/
theorem commitTells_holds : Rows.CommitTellsSaid := commitTellsP.over
end Go.Proofs.YtgdalihjpemjiaaGreat
