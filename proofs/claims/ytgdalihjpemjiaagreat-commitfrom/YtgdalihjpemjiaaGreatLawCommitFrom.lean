/- CommitFrom: for every number, natural and list of shares: in a small group, of a list of at most 8, the commitments of the first one and of the shares, or that there are none, are as the document says; no condition. -/
import Derived.Test.YtgdalihjpemjiaaGreatCG
import Derived.Test.YtgdalihjpemjiaaGreatGU
set_option maxRecDepth 100000
set_option maxHeartbeats 2000000
namespace Go.Proofs.YtgdalihjpemjiaaGreat
open Go.ChangeShapes Go.WideShapes Go.ChangeAt Go.RowKit
namespace commitFromP
set_option linter.unusedVariables false
set_option linter.unusedSectionVars false
theorem ap_zx (I : Nat → Int) (n : Nat) : apB 0 (Zx I) (n + 1) = apB 1 I n := by
 rw [Bool.eq_iff_iff, apB_iff, apB_iff]
 constructor
 ·rintro ⟨h1, h2⟩
  refine ⟨fun k hk => ?_, fun j k hj hk => h2 (j + 1) (k + 1) (by omega) (by omega)⟩
  have a1 : (0 : Int) ≤ I k ∧ I k ≤ 7 := h1 (k + 1) (by omega)
  have a2 : (0 : Int) ≠ I k := h2 0 (k + 1) (by omega) (by omega)
  omega
 ·rintro ⟨h1, h2⟩
  refine ⟨fun k hk => ?_, fun j k hj hk => ?_⟩
  ·cases k with
   | zero => exact ⟨Int.le_refl 0, by show (0 : Int) ≤ 7; decide⟩
   | succ k =>
    have := h1 k (by omega)
    show (0 : Int) ≤ I k ∧ I k ≤ 7
    omega
  ·cases k with
   | zero => omega
   | succ k =>
    cases j with
    | zero =>
     have := h1 k (by omega)
     show (0 : Int) ≠ I k
     omega
    | succ j => exact h2 j k (by omega) (by omega)
section
variable {Q : Nat} [NeZero Q] {P G : Nat}
/-- The document's factors, and their products. -/
def rX (P Q G A : Nat) (W : Nat → Nat → Nat) (Y : Nat → Nat) (j : Nat) : Nat → Nat
 | 0 => A ^ W j 0 % P
 | k + 1 => G ^ (W j (k + 1) * (Y k % Q) % Q) % P
def rT (P Q G A : Nat) (W : Nat → Nat → Nat) (Y : Nat → Nat) (j : Nat) : Nat → Nat
 | 0 => 1
 | i + 1 => rT P Q G A W Y j i * rX P Q G A W Y j i % P
theorem rT_is (f : GF P Q G) (A : Nat) (W : Nat → Nat → Nat) (Y : Nat → Nat) (j : Nat) : ∀ n, rT P Q G A W Y j (n + 1) = frS P Q G A W Y n j
 | 0 => by
  show 1 * (A ^ W j 0 % P) % P = A ^ W j 0 * G ^ 0 % P
  rw [Nat.one_mul, Nat.mod_mod, Nat.pow_zero, Nat.mul_one]
 | n + 1 => by
  show rT P Q G A W Y j (n + 1) * (G ^ (W j (n + 1) * (Y n % Q) % Q) % P) % P = A ^ W j 0 * G ^ ((dotN (fun i => W j (i + 1)) Y Q n + W j (n + 1) * Y n % Q) % Q) % P
  have e1 : W j (n + 1) * (Y n % Q) % Q = W j (n + 1) * Y n % Q := by rw [Nat.mul_mod, Nat.mod_mod, ← Nat.mul_mod]
  rw [e1, rT_is f A W Y j n]
  show A ^ W j 0 * G ^ dotN (fun i => W j (i + 1)) Y Q n % P * (G ^ (W j (n + 1) * Y n % Q) % P) % P = _
  rw [← Nat.mul_mod, Nat.mul_assoc, ← Nat.pow_add, Nat.mul_mod (A ^ W j 0), pow_by f.rP.two f.ord (dotN (fun i => W j (i + 1)) Y Q n + W j (n + 1) * Y n % Q), ← Nat.mul_mod]
theorem rfrom14_any (f : GF P Q G) (hp : P < 4611686018427387904) (hq : Q < 4611686018427387904) (ab : Option Addr) (n c A : Nat) (J Y : Nat → Nat) (gb ob : Nat) (bcs : Array Value) (tb : TypeId) (w : World) (hn : n ≤ 6) (hA : A < P) (hY : ∀ k, k < n → Y k < 2 ^ 256) (hI : apB 0 (fun k => ((Zn J k : Nat) : Int)) (n + 1) = true) (hna : ElsAt 5 w ab n (fun k => shC ((J k : Nat) : Int) (Y k)) gb ob bcs tb) :
  Calls Tryz.prog 31 #[.agg (smC (P : Nat) (Q : Nat) (G : Nat)), .agg (natC A), .slice ab n c] w fun e w' => ∃ ax cx gx cur, e = .returned (.slice ax (n + 1) cx) ∧ NatsAt w' ax (n + 1) (frS P Q G A (wtV (Q := Q) (Zn J) (n + 1) (n + 1) 0) Y n) gx 0 cur 40 ∧ Below w.heap.size w w' := by
 have hb0 := f.big
 have hp2 := f.rP.two
 obtain ⟨h1, _⟩ := (apB_iff _ _ _).1 hI
 have hZ : ∀ i, i < n + 1 → Zn J i < Q := fun i hi => by have := (h1 i hi).2; omega
 have hdd := ap_fi f hI
 have hlow : ∀ X w', X < P → Calls Tryz.prog 50 #[.agg (natC X)] w' fun e w2 => e = .returned (.tuple #[.int .i64 (X : Nat), .bool true]) ∧ Below w'.heap.size w' w2 := fun X w' hX => rlow_63 X w' (by omega)
 have hint : ∀ X w', X < 4611686018427387904 → Calls Tryz.prog 47 #[.int .i64 (X : Nat)] w' fun e w2 => e = .returned (.agg (natC X)) ∧ Below w'.heap.size w' w2 := fun X w' hX => by
  have := rint_any ((X : Nat) : Int) w' (by omega)
  rw [Int.toNat_natCast] at this
  exact this
 have hwl : ∀ a b, wtV (Q := Q) (Zn J) (n + 1) (n + 1) 0 a b < Q := fun a b => by
  unfold wtV
  split
  ·exact (pco _ a).isLt
  ·omega
 have hTl : ∀ j, rT P Q G A (wtV (Q := Q) (Zn J) (n + 1) (n + 1) 0) Y j (n + 1) < P := fun j => Nat.mod_lt _ (by omega)
 have h256 : ∀ X, X < 4611686018427387904 → X < 2 ^ 256 := fun X h => Nat.lt_trans h (by decide)
 refine (rfrom_core ab n c A P Q G J (fun k => Y k % Q) (wtV (Q := Q) (Zn J) (n + 1) (n + 1) 0) (rT P Q G A (wtV (Q := Q) (Zn J) (n + 1) (n + 1) 0) Y) (rX P Q G A (wtV (Q := Q) (Zn J) (n + 1) (n + 1) 0) Y) (fun j k => wtV (Q := Q) (Zn J) (n + 1) (n + 1) 0 j (k + 1) * (Y k % Q) % Q) (fun w' v => IlAt w' v (fl (n + 1) (Zn J) : List (Fin Q))) w hn (fun _ _ _ h hb => h.below hb) (fun w' b v h => ilAt_own h (fl_length _ _).symm (fun i hi => by rw [fl_co _ _ _ hi, val_fi (hZ i hi)])) (fun j => h256 _ (by have := hTl j; omega))
  (fun w' hb => rplc_any ab n c Q J Y gb ob bcs tb w' (by omega) f.rQ.pos hq hY (hna.below hb)) (fun w' => hlow A w' hA) (fun i hi w' gU {ap cp} hx r => ?_) (fun j i w' _ _ => hint _ w' (by have := hwl j i; omega)) (fun j w' => rexp9_any A _ P ((Q : Nat) : Int) ((G : Nat) : Int) w' (h256 _ (by have := hwl j 0; omega)) (by omega) hp) (fun j k w' => rmul8_any _ _ Q w' f.rQ.pos hq) (fun j k w' => hint _ w' (by have := Nat.mod_lt (wtV (Q := Q) (Zn J) (n + 1) (n + 1) 0 j (k + 1) * (Y k % Q)) f.rQ.pos; omega)) (fun j k w' => rexp9_any G _ P ((Q : Nat) : Int) ((G : Nat) : Int) w' (h256 _ (by have := Nat.mod_lt (wtV (Q := Q) (Zn J) (n + 1) (n + 1) 0 j (k + 1) * (Y k % Q)) f.rQ.pos; omega)) (by omega) hp)
  (fun j i w' => rmul9_any _ _ P ((Q : Nat) : Int) ((G : Nat) : Int) w' (by omega) hp) (fun j => rfl) (fun j w' => hint _ w' (by have := hTl j; omega))).mono ?_
 ·have hon : ∀ a, onK i a < Q := fun a => by unfold onK; split <;> omega
  have hu : IlAt w' (.slice (some ⟨gU, 0, none⟩) (n + 1) (n + 1)) (fl (n + 1) (onK i) : List (Fin Q)) := by
   refine ⟨some ⟨gU, 0, none⟩, n + 1, gU, 0, isC (n + 1) (onK i), 3, by rw [fl_length], by rw [fl_length]; exact Nat.le_refl _, ?_⟩
   rw [fl_length]
   exact (nums_row r).congr (fun a ha => by
    show onK i a = (pco (fl (n + 1) (onK i) : List (Fin Q)) a).val
    rw [fl_co _ _ _ ha, val_fi (hon a)])
  have ht := rthrL _ _ (fl (n + 1) (Zn J) : List (Fin Q)) (fl (n + 1) (onK i)) (n + 1) w' (fl_length _ _) (fl_length _ _) (by omega) f.rQ hq hx hu
  have e : pthr ivF (pco (fl (n + 1) (Zn J) : List (Fin Q))) (pco (fl (n + 1) (onK i) : List (Fin Q))) (n + 1) (n + 1) = wtP (Zn J) (n + 1) i := by
   unfold wtP
   rw [tTh_is f.rQ.pr ivF (ivF_is f.rQ) _ _ (n + 1) hdd]
   exact pthr_congr ivF _ (fun i => (fi (Zn J i) : Fin Q)) _ (fun a => (fi (onK i a) : Fin Q)) (n + 1) (fun j hj => fl_co _ _ _ hj) (fun j hj => fl_co _ _ _ hj) (n + 1) (Nat.le_refl _)
  rw [e] at ht
  refine ht.mono ?_
  rintro e2 w2 ⟨v', rfl, ⟨av, cv, gv, ov, bv, tv, rfl, _, hnv⟩, hb⟩
  have hv : ∀ j, (pco (wtP (Zn J) (n + 1) i : List (Fin Q)) j).val = wtV (Q := Q) (Zn J) (n + 1) (n + 1) 0 j i := fun j => (if_pos (.inl hi)).symm
  exact ⟨av, _, cv, gv, ov, bv, tv, rfl, tTh_length ivF _ _ (n + 1), hnv.congr (fun j _ => hv j), fun j hj => by rw [← hv, pco_out _ j hj]; rfl, hb⟩
 ·rintro e w2 ⟨ax, cx, gx, cur, rfl, hnx, hb⟩
  exact ⟨ax, cx, gx, cur, rfl, hnx.congr (fun j _ => rT_is f A _ Y j n), hb⟩
end
theorem core0 (a0 : Int) (n c A : Nat) (ab : Option Addr) (w : World) (h : 8 < n) :
  Calls Tryz.prog 6 #[.int .i64 a0, .agg (natC A), .slice ab n c] w fun e w' => e = .returned (.bool true) ∧ Below w.heap.size w w' := by
 have haw := awake14_any
 go_enter Tryz.func6, Tryz.ntmps6
 iterate 2 go_step
 refine rp ?_;refine pw_boxr (by rfl) 40 _ rfl (natC A) rfl ?_;intro g4 z0 n0 r4 k;simp only [pv];clear n0
 have sb := k_b k
 clear k;refine p_v (.bool false) (fun _ => rfl) (pw_nil ?_);simp only [pv]
 iterate 4 go_step
 refine rp ?_;refine p_m ?_;simp only [pv];refine p_v (.int .i64 n) (n_l ab n c sl_shs) ?_;refine p_v (.bool true) (gt_t n 8) (pw_nil ?_);simp only [pv]
 iterate 4 go_step
 refine rp ?_;refine p_c 9 Tryz.func9 #[] (haw _) ?_;intro z2000 k;simp only [pv];replace sb := kk sb k;clear k;refine p_a (pw_nil ?_);simp only [pv]
 go_wp2
 go_ret
 exact ⟨rfl, sb⟩
theorem core1 (a0 : Int) (PP QQ GG n c A : Nat) (ab : Option Addr) (B : Bool) (w : World) (hn : n ≤ 8)
  (hsm : ∀ w', Calls Tryz.prog 10 #[.int .i64 a0] w' fun e w2 => ∃ g gr gf, e = .returned (.tuple #[.pointer (some ⟨g, 0, none⟩), .agg (smC (PP : Nat) (QQ : Nat) (GG : Nat)), .bool true]) ∧ GrpAt w2 g gr gf PP QQ GG ∧ Below w'.heap.size w' w2)
  (hin : ∀ w', Calls Tryz.prog 29 #[.agg (smC (PP : Nat) (QQ : Nat) (GG : Nat)), .agg (natC A)] w' (Rt (.bool B) w'))
  (hm : B = true → n ≤ 6 → ∀ w', Below w.heap.size w w' → Calls Tryz.prog 30 #[.slice ab n c] w' (Rt (.bool false) w'))
  (hfr : ∀ g gr gf w', Below w.heap.size w w' → GrpAt w' g gr gf PP QQ GG → Calls Tryz.prog 28 #[.pointer (some ⟨g, 0, none⟩), .agg (natC A), .slice ab n c] w' (Rt (.tuple #[.slice none 0 0, .int .i64 1]) w')) :
  Calls Tryz.prog 6 #[.int .i64 a0, .agg (natC A), .slice ab n c] w fun e w' => e = .returned (.bool true) ∧ Below w.heap.size w w' := by
 have haw := awake14_any
 go_enter Tryz.func6, Tryz.ntmps6
 iterate 2 go_step
 refine rp ?_;refine pw_boxr (by rfl) 40 _ rfl (natC A) rfl ?_;intro g4 z0 n0 r4 k;simp only [pv];clear n0
 have sb := k_b k
 clear k;refine p_v (.bool false) (fun _ => rfl) (pw_nil ?_);simp only [pv]
 iterate 4 go_step
 refine rp ?_;refine p_m ?_;simp only [pv];refine p_v (.int .i64 n) (n_l ab n c sl_shs) ?_;refine p_v (.bool false) (gt_f n 8) (pw_nil ?_);simp only [pv]
 iterate 7 go_step
 refine rp ?_;refine p_m ?_;simp only [pv];refine p_f 10 Tryz.func10 #[.int .i64 a0] (hsm _) ?_
 rintro _ z3001 ⟨g, gr, gf, rfl, ⟨rG, rR, rF⟩, hb⟩
 refine ⟨_, rfl, ?_⟩
 simp only [pv]
 have k := Kept.ofBelow hb
 clear hb;replace r4 := k.ro r4;replace sb := kk sb k;clear k;refine p_m ?_;refine p_e ?_;refine p_e ?_;refine p_e ?_;simp only [pv];refine pw_new (by rfl) 27 rfl _ zero_sm ?_;intro g8 z3006 n0 r8 k;simp only [pv]
 have d4x8 := l_l r4.lt n0
 have dGx8 := l_l rG.lt n0
 have dRx8 := l_l rR.lt n0
 have dFx8 := l_l rF.lt n0
 have b8 := Nat.le_trans sb.size n0
 clear n0;replace r4 := k.ro r4;replace rG := k.ro rG;replace rR := k.ro rR;replace rF := k.ro rF;replace sb := kk sb k;clear k;refine p_a ?_;simp only [pv];refine pw_put (by rfl) 27 _ _ rfl _ rfl r8 (smC (PP : Nat) (QQ : Nat) (GG : Nat)) rfl (by exact size_sm) (by rfl) (sm_one _ _ _) ?_;clear r8;intro z3008 r8 k;simp only [Act.put];replace r4 := k.ro r4;replace rG := k.ro rG;replace rR := k.ro rR;replace rF := k.ro rF;replace sb := kk sb k;clear k;refine p_a (pw_nil ?_);simp only [pv];clear hsm
 iterate 3 go_step
 refine rp ?_;refine p_m ?_;simp only [pv];refine p_l r4.r ?_;refine p_m ?_;simp only [pv];refine p_c 28 Tryz.func28 #[.pointer (some ⟨g, 0, none⟩), .agg (natC A), .slice ab n c] (hfr g gr gf _ sb (⟨rG, rR, rF⟩ : GrpAt _ g gr gf PP QQ GG)) ?_;intro z4003 k;simp only [pv];replace r4 := k.ro r4;replace r8 := k.ro r8;replace rG := k.ro rG;replace rR := k.ro rR;replace rF := k.ro rF;replace sb := kk sb k;clear k;refine p_m ?_;refine p_e ?_;refine p_e ?_;refine p_a ?_;refine p_a (pw_nil ?_);simp only [pv];clear hfr
 cases B with
 | false =>
  iterate 4 go_step
  refine rp ?_;refine pw_loadm (by rfl) 27 _ rfl _ 0 rfl r8.r _ (part_all _) _ Tryz.underlying27 rfl size_sm ?_;simp only [pv];refine p_l r4.r ?_;simp only [pv];refine p_c 29 Tryz.func29 #[.agg (smC (PP : Nat) (QQ : Nat) (GG : Nat)), .agg (natC A)] (hin _) ?_;intro z5002 k;simp only [pv];replace r4 := k.ro r4;replace r8 := k.ro r8;replace sb := kk sb k;clear k;refine p_v (.bool true) (exec_not _ _ rfl false rfl) ?_;refine p_m ?_;refine p_s ?_;refine p_s ?_;refine p_s ?_;simp only [pv];refine p_k true (.bool true) ?_;refine p_m ?_;refine p_s ?_;refine p_s ?_;refine p_s ?_;simp only [pv];refine p_k true (.bool true) (pw_nil ?_);simp only [pv]
  iterate 4 go_step
  refine rp ?_;refine p_m ?_;refine p_m ?_;refine p_m ?_;simp only [pv];refine p_v (.int .i64 0) (n_l none 0 0 sl_natsX) ?_;simp only [pv];refine p_v (.bool true) (exec_eql_k .i64 _ _ _ _ rfl 0 0 rfl rfl true rfl) ?_;refine p_k true (.bool true) ?_;refine p_m ?_;refine p_m ?_;simp only [pv];refine p_v (.bool true) (exec_eql_k .i64 _ _ _ _ rfl 1 1 rfl rfl true rfl) ?_;refine p_k true (.bool true) ?_;refine p_m ?_;simp only [pv];refine p_c 9 Tryz.func9 #[] (haw _) ?_;intro z6011 k;simp only [pv];replace sb := kk sb k;clear k;refine p_k true (.bool true) ?_;refine p_a (pw_nil ?_);simp only [pv]
  go_wp2
  go_ret
  exact ⟨rfl, sb⟩
 | true =>
  by_cases h6 : 6 < n
  ·repeat ((fail_if_success with_reducible apply rg); go_step)
   refine rp ?_;refine pw_loadm (by rfl) 27 _ rfl _ 0 rfl r8.r _ (part_all _) _ Tryz.underlying27 rfl size_sm ?_;simp only [pv];refine p_l r4.r ?_;simp only [pv];refine p_c 29 Tryz.func29 #[.agg (smC (PP : Nat) (QQ : Nat) (GG : Nat)), .agg (natC A)] (hin _) ?_;intro z5002 k;simp only [pv];replace r4 := k.ro r4;replace r8 := k.ro r8;replace sb := kk sb k;clear k;refine p_v (.bool false) (exec_not _ _ rfl true rfl) ?_;refine p_m ?_;refine p_m ?_;simp only [pv];refine p_v (.int .i64 n) (n_l ab n c sl_shs) ?_;refine p_v (.bool true) (gt_t n 6) ?_;refine p_k false (.bool true) ?_;refine p_m ?_;refine p_s ?_;simp only [pv];refine p_s ?_;refine p_s ?_;refine p_k true (.bool true) (pw_nil ?_);simp only [pv]
   repeat ((fail_if_success with_reducible apply rg); go_step)
   refine rp ?_;refine p_m ?_;refine p_m ?_;refine p_m ?_;simp only [pv];refine p_v (.int .i64 0) (n_l none 0 0 sl_natsX) ?_;simp only [pv];refine p_v (.bool true) (exec_eql_k .i64 _ _ _ _ rfl 0 0 rfl rfl true rfl) ?_;refine p_k true (.bool true) ?_;refine p_m ?_;refine p_m ?_;simp only [pv];refine p_v (.bool true) (exec_eql_k .i64 _ _ _ _ rfl 1 1 rfl rfl true rfl) ?_;refine p_k true (.bool true) ?_;refine p_m ?_;simp only [pv];refine p_c 9 Tryz.func9 #[] (haw _) ?_;intro z6011 k;simp only [pv];replace sb := kk sb k;clear k;refine p_k true (.bool true) ?_;refine p_a (pw_nil ?_);simp only [pv]
   go_wp2
   go_ret
   exact ⟨rfl, sb⟩
  ·have hma := hm rfl (by omega)
   repeat ((fail_if_success with_reducible apply rg); go_step)
   refine rp ?_;refine pw_loadm (by rfl) 27 _ rfl _ 0 rfl r8.r _ (part_all _) _ Tryz.underlying27 rfl size_sm ?_;simp only [pv];refine p_l r4.r ?_;simp only [pv];refine p_c 29 Tryz.func29 #[.agg (smC (PP : Nat) (QQ : Nat) (GG : Nat)), .agg (natC A)] (hin _) ?_;intro z5002 k;simp only [pv];replace r4 := k.ro r4;replace r8 := k.ro r8;replace sb := kk sb k;clear k;refine p_v (.bool false) (exec_not _ _ rfl true rfl) ?_;refine p_m ?_;refine p_m ?_;simp only [pv];refine p_v (.int .i64 n) (n_l ab n c sl_shs) ?_;refine p_v (.bool false) (gt_f n 6) ?_;refine p_k false (.bool false) ?_;refine p_m ?_;refine p_m ?_;simp only [pv];refine p_c 30 Tryz.func30 #[.slice ab n c] (hma _ sb) ?_;intro z5011 k;simp only [pv];replace r4 := k.ro r4;replace r8 := k.ro r8;replace sb := kk sb k;clear k;refine p_v (.bool true) (exec_not _ _ rfl false rfl) ?_;refine p_k false (.bool true) (pw_nil ?_);simp only [pv]
   repeat ((fail_if_success with_reducible apply rg); go_step)
   refine rp ?_;refine p_m ?_;refine p_m ?_;refine p_m ?_;simp only [pv];refine p_v (.int .i64 0) (n_l none 0 0 sl_natsX) ?_;simp only [pv];refine p_v (.bool true) (exec_eql_k .i64 _ _ _ _ rfl 0 0 rfl rfl true rfl) ?_;refine p_k true (.bool true) ?_;refine p_m ?_;refine p_m ?_;simp only [pv];refine p_v (.bool true) (exec_eql_k .i64 _ _ _ _ rfl 1 1 rfl rfl true rfl) ?_;refine p_k true (.bool true) ?_;refine p_m ?_;simp only [pv];refine p_c 9 Tryz.func9 #[] (haw _) ?_;intro z6011 k;simp only [pv];replace sb := kk sb k;clear k;refine p_k true (.bool true) ?_;refine p_a (pw_nil ?_);simp only [pv]
   go_wp2
   go_ret
   exact ⟨rfl, sb⟩
theorem core4 (a0 : Int) (PP QQ GG n c A : Nat) (ab : Option Addr) (h6 : n ≤ 6) (S : Nat → Nat) (w : World) (hn : n ≤ 8)
  (hsm : ∀ w', Calls Tryz.prog 10 #[.int .i64 a0] w' fun e w2 => ∃ g gr gf, e = .returned (.tuple #[.pointer (some ⟨g, 0, none⟩), .agg (smC (PP : Nat) (QQ : Nat) (GG : Nat)), .bool true]) ∧ GrpAt w2 g gr gf PP QQ GG ∧ Below w'.heap.size w' w2)
  (hin : ∀ w', Calls Tryz.prog 29 #[.agg (smC (PP : Nat) (QQ : Nat) (GG : Nat)), .agg (natC A)] w' (Rt (.bool true) w'))
  (hma : ∀ w', Below w.heap.size w w' → Calls Tryz.prog 30 #[.slice ab n c] w' (Rt (.bool true) w'))
  (hfr : ∀ g gr gf w', Below w.heap.size w w' → GrpAt w' g gr gf PP QQ GG → Calls Tryz.prog 28 #[.pointer (some ⟨g, 0, none⟩), .agg (natC A), .slice ab n c] w' fun e w2 => ∃ gC, e = .returned (.tuple #[.slice (some ⟨gC, 0, none⟩) (n + 1) (n + 1), .int .i64 0]) ∧ w'.heap.size ≤ gC ∧ Row w2 gC (nsC (n + 1) S) 40 ∧ Below w'.heap.size w' w2)
  (hrf : ∀ w', Below w.heap.size w w' → Calls Tryz.prog 31 #[.agg (smC (PP : Nat) (QQ : Nat) (GG : Nat)), .agg (natC A), .slice ab n c] w' fun e w2 => ∃ ax cx gx cur, e = .returned (.slice ax (n + 1) cx) ∧ NatsAt w2 ax (n + 1) S gx 0 cur 40 ∧ Below w'.heap.size w' w2)
  (hsa : ∀ w' gC ax cx gx cur, Row w' gC (nsC (n + 1) S) 40 → NatsAt w' ax (n + 1) S gx 0 cur 40 → Calls Tryz.prog 19 #[.slice (some ⟨gC, 0, none⟩) (n + 1) (n + 1), .slice ax (n + 1) cx] w' (Rt (.bool true) w')) :
  Calls Tryz.prog 6 #[.int .i64 a0, .agg (natC A), .slice ab n c] w fun e w' => e = .returned (.bool true) ∧ Below w.heap.size w w' := by
 have haw := awake14_any
 go_enter Tryz.func6, Tryz.ntmps6
 iterate 2 go_step
 refine rp ?_;refine pw_boxr (by rfl) 40 _ rfl (natC A) rfl ?_;intro g4 z0 n0 r4 k;simp only [pv];clear n0
 have sb := k_b k
 clear k;refine p_v (.bool false) (fun _ => rfl) (pw_nil ?_);simp only [pv]
 iterate 4 go_step
 refine rp ?_;refine p_m ?_;simp only [pv];refine p_v (.int .i64 n) (n_l ab n c sl_shs) ?_;refine p_v (.bool false) (gt_f n 8) (pw_nil ?_);simp only [pv]
 iterate 7 go_step
 refine rp ?_;refine p_m ?_;simp only [pv];refine p_f 10 Tryz.func10 #[.int .i64 a0] (hsm _) ?_
 rintro _ z3001 ⟨g, gr, gf, rfl, ⟨rG, rR, rF⟩, hb⟩
 refine ⟨_, rfl, ?_⟩
 simp only [pv]
 have k := Kept.ofBelow hb
 clear hb;replace r4 := k.ro r4;replace sb := kk sb k;clear k;refine p_m ?_;refine p_e ?_;refine p_e ?_;refine p_e ?_;simp only [pv];refine pw_new (by rfl) 27 rfl _ zero_sm ?_;intro g8 z3006 n0 r8 k;simp only [pv]
 have d4x8 := l_l r4.lt n0
 have dGx8 := l_l rG.lt n0
 have dRx8 := l_l rR.lt n0
 have dFx8 := l_l rF.lt n0
 have b8 := Nat.le_trans sb.size n0
 clear n0;replace r4 := k.ro r4;replace rG := k.ro rG;replace rR := k.ro rR;replace rF := k.ro rF;replace sb := kk sb k;clear k;refine p_a ?_;simp only [pv];refine pw_put (by rfl) 27 _ _ rfl _ rfl r8 (smC (PP : Nat) (QQ : Nat) (GG : Nat)) rfl (by exact size_sm) (by rfl) (sm_one _ _ _) ?_;clear r8;intro z3008 r8 k;simp only [Act.put];replace r4 := k.ro r4;replace rG := k.ro rG;replace rR := k.ro rR;replace rF := k.ro rF;replace sb := kk sb k;clear k;refine p_a (pw_nil ?_);simp only [pv];clear hsm
 iterate 3 go_step
 refine rp ?_;refine p_m ?_;simp only [pv];refine p_l r4.r ?_;refine p_m ?_;simp only [pv];refine p_f 28 Tryz.func28 #[.pointer (some ⟨g, 0, none⟩), .agg (natC A), .slice ab n c] (hfr g gr gf _ sb (⟨rG, rR, rF⟩ : GrpAt _ g gr gf PP QQ GG)) ?_
 rintro _ z4003 ⟨gC, rfl, nC, rC, hb⟩
 refine ⟨_, rfl, ?_⟩
 simp only [pv];clear nC
 have k := Kept.ofBelow hb
 clear hb;replace r4 := k.ro r4;replace r8 := k.ro r8;replace rG := k.ro rG;replace rR := k.ro rR;replace rF := k.ro rF;replace sb := kk sb k;clear k;refine p_m ?_;refine p_e ?_;refine p_e ?_;refine p_a ?_;refine p_a (pw_nil ?_);simp only [pv];clear hfr
 iterate 4 go_step
 refine rp ?_;refine pw_loadm (by rfl) 27 _ rfl _ 0 rfl r8.r _ (part_all _) _ Tryz.underlying27 rfl size_sm ?_;simp only [pv];refine p_l r4.r ?_;simp only [pv];refine p_c 29 Tryz.func29 #[.agg (smC (PP : Nat) (QQ : Nat) (GG : Nat)), .agg (natC A)] (hin _) ?_;intro z5002 k;simp only [pv];replace r4 := k.ro r4;replace r8 := k.ro r8;replace rC := k.ro rC;replace sb := kk sb k;clear k;refine p_v (.bool false) (exec_not _ _ rfl true rfl) ?_;refine p_m ?_;refine p_m ?_;simp only [pv];refine p_v (.int .i64 n) (n_l ab n c sl_shs) ?_;refine p_v (.bool false) (gt_f n 6) ?_;refine p_k false (.bool false) ?_;refine p_m ?_;refine p_m ?_;simp only [pv];refine p_c 30 Tryz.func30 #[.slice ab n c] (hma _ sb) ?_;intro z5011 k;simp only [pv];replace r4 := k.ro r4;replace r8 := k.ro r8;replace rC := k.ro rC;replace sb := kk sb k;clear k;refine p_v (.bool false) (exec_not _ _ rfl true rfl) ?_;refine p_k false (.bool false) (pw_nil ?_);simp only [pv]
 iterate 7 go_step
 refine rp ?_;refine p_m ?_;refine p_m ?_;refine p_m ?_;simp only [pv];refine p_v (.bool true) (exec_eql_k .i64 _ _ _ _ rfl 0 0 rfl rfl true rfl) ?_;refine p_k true (.bool true) ?_;refine p_m ?_;refine p_m ?_;simp only [pv];refine pw_loadm (by rfl) 27 _ rfl _ 0 rfl r8.r _ (part_all _) _ Tryz.underlying27 rfl size_sm ?_;simp only [pv];refine p_l r4.r ?_;refine p_m ?_;simp only [pv];refine p_f 31 Tryz.func31 #[.agg (smC (PP : Nat) (QQ : Nat) (GG : Nat)), .agg (natC A), .slice ab n c] (hrf _ sb) ?_
 rintro _ z7010 ⟨ax, cx, gx, cur, rfl, hnx, hb⟩
 refine ⟨_, rfl, ?_⟩
 simp only [pv]
 have k := Kept.ofBelow hb
 clear hb;replace r4 := k.ro r4;replace r8 := k.ro r8;replace rC := k.ro rC;replace sb := kk sb k;clear k;refine p_c 19 Tryz.func19 #[.slice (some ⟨gC, 0, none⟩) (n + 1) (n + 1), .slice ax (n + 1) cx] (hsa _ gC ax cx gx cur rC hnx) ?_;intro z7011 k;simp only [pv];replace r4 := k.ro r4;replace r8 := k.ro r8;replace rC := k.ro rC;replace hnx := hnx.below k.nil;replace sb := kk sb k;clear k;refine p_k true (.bool true) ?_;refine p_m ?_;simp only [pv];refine p_c 9 Tryz.func9 #[] (haw _) ?_;intro z7014 k;simp only [pv];replace r4 := k.ro r4;replace r8 := k.ro r8;replace rC := k.ro rC;replace hnx := hnx.below k.nil;replace sb := kk sb k;clear k;refine p_k true (.bool true) ?_;refine p_a (pw_nil ?_);simp only [pv]
 go_wp2
 go_ret
 exact ⟨rfl, sb⟩
theorem walk (a0 : Int) (A : Nat) (ab : Option Addr) (n c : Nat) (I : Nat → Int) (Y : Nat → Nat) (gb ob : Nat) (bcs : Array Value) (tb : TypeId) (w : World) (_ : -9223372036854775808 ≤ a0 ∧ a0 ≤ 9223372036854775807) (hA : A < 2 ^ 256) (_ : n ≤ c) (hna : ElsAt 5 w ab n (fun k => shC (I k) (Y k)) gb ob bcs tb) (hY : ∀ k, k < n → Y k < 2 ^ 256) (_ : ∀ k, k < n → -9223372036854775808 ≤ I k ∧ I k < 9223372036854775808) :
  Calls Tryz.prog 6 #[.int .i64 a0, .agg (natC A), .slice ab n c] w fun e w' => e = .returned (.bool true) ∧ Below w.heap.size w w' := by
 by_cases h : 8 < n
 ·exact core0 a0 n c A ab w h
 obtain ⟨f, hp, hq⟩ := smF a0
 have hs := sml14_any a0
 generalize smP a0 = PP at *
 generalize smQ a0 = QQ at *
 generalize smG a0 = GG at *
 haveI : NeZero QQ := ⟨by have := f.big; omega⟩
 have hin := fun w' => rin9_any A PP QQ ((GG : Nat) : Int) w' hA f.rP.two hp f.rQ.pos (by omega)
 have hma := fun w' (hb : Below w.heap.size w w') => rmays_any ab n c I Y gb ob bcs tb w' (by omega) (hna.below hb)
 cases hm : memN PP QQ A with
 | false =>
  rw [hm] at hin
  exact core1 a0 PP QQ GG n c A ab false w (by omega) hs hin (fun h => by cases h) (fun g gr gf w' hb hg => cfrom_mem f hg hA (.inr hm))
 | true =>
  rw [hm] at hin
  by_cases h6 : 6 < n
  ·exact core1 a0 PP QQ GG n c A ab true w (by omega) hs hin (fun _ h => absurd h (by omega)) (fun g gr gf w' hb hg => cfrom_mem f hg hA (.inl (by omega)))
  cases hap : apB 1 I n with
  | false =>
   rw [hap] at hma
   exact core1 a0 PP QQ GG n c A ab true w (by omega) hs hin (fun _ _ => hma) (fun g gr gf w' hb hg => cfrom_arg f hg hA (by omega) hm hY (hna.below hb) (by rw [ap_zx]; exact hap))
  | true =>
   rw [hap] at hma
   obtain ⟨h1, _⟩ := (apB_iff _ _ _).1 hap
   have hJ : ∀ k, k < n → I k = (((fun k => (I k).toNat) k : Nat) : Int) := fun k hk => by
    have := h1 k hk
    show I k = (((I k).toNat : Nat) : Int)
    omega
   have hnj : ElsAt 5 w ab n (fun k => shC (((fun k => (I k).toNat) k : Nat) : Int) (Y k)) gb ob bcs tb := hna.congr (fun k hk => by rw [← hJ k hk])
   have hz : apB 0 (fun k => ((Zn (fun k => (I k).toNat) k : Nat) : Int)) (n + 1) = true := by
    rw [apB_congr (n + 1) (Z' := Zx I) (fun k hk => ?_), ap_zx]
    ·exact hap
    ·cases k with
     | zero => rfl
     | succ k => exact (hJ k (by omega)).symm
   have hAP : A < PP := by
    unfold memN at hm
    simp only [Bool.and_eq_true, decide_eq_true_iff] at hm
    exact hm.1
   have hSl : ∀ j, frS PP QQ GG A (wtV (Q := QQ) (Zn (fun k => (I k).toNat)) (n + 1) (n + 1) 0) Y n j < 2 ^ 256 := fun j => Nat.lt_trans (Nat.mod_lt _ (by have := f.rP.two; omega)) f.rP.m
   exact core4 a0 PP QQ GG n c A ab (by omega) (frS PP QQ GG A (wtV (Q := QQ) (Zn (fun k => (I k).toNat)) (n + 1) (n + 1) 0) Y n) w (by omega) hs hin hma (fun g gr gf w' hb hg => cfrom_ok f hg hA (by omega) hm hY (hnj.below hb) hz) (fun w' hb => rfrom14_any f hp hq ab n c A (fun k => (I k).toNat) Y gb ob bcs tb w' (by omega) hAP hY hz (hnj.below hb)) (fun w' gC ax cx gx cur rC hnx => rsame_yes (n + 1) (n + 1) cx (some ⟨gC, 0, none⟩) ax _ gC 0 gx 0 _ _ _ _ w' (by omega) (nats_row rC (fun i _ => hSl i)) hnx)
theorem lifted (os : Os) (started : os.Started) (H : Type) (enc : TypeId × Value → H) :
  ReturnsInHanded {} Tryz.checked os 6 .any (Rows.commitFromSpec.pre6 enc Tryz.prog Tryz.f6 Rows.commitFromRow.domain false) (Rows.commitFromSpec.post enc Tryz.prog Tryz.f6 false true false false) := by
 refine returnsInHanded_of_change (C := Tryz.checked) own started (by kernel_rfl) Tryz.func6
  (ChangeSpec.witness6 (enc := enc) (C := Tryz.checked) false ⟨#[], #[.int .i64 0, .agg #[.int .u64 0, .int .u64 0, .int .u64 0, .int .u64 0], .slice none 0 0], []⟩ 8 (by kernel_rfl) (by kernel_rfl) (by kernel_rfl) (by kernel_rfl)) ?_
 intro W base args ds gs before hval0 hW hcnd _
 have hval : ∀ (j : Nat) t v, Tryz.f6.params[j]? = some t → args[j]? = some v → Value.okWide Tryz.prog W .any base t v := hval0
 have hW' := hW
 obtain ⟨p, q, hA0, hV, rfl, hfz, hnd⟩ := hW
 have hA : DataW.TrodAll enc Tryz.prog W 0 (fun _ => true) true Tryz.f6.params.toList args.toList ds p := hA0
 rw [Tryz.params6] at hA hval
 obtain ⟨v0, vs0, d0, ds0, p0, q0, hargs, rfl, rfl, h0, r0⟩ := trodAll_cons hA
 obtain ⟨v1, vs1, d1, ds1, p1, q1, rfl, rfl, rfl, h1, r1⟩ := trodAll_cons r0
 obtain ⟨v2, vs2, d2, ds2, p2, q2, rfl, rfl, rfl, h2, r2⟩ := trodAll_cons r1
 obtain ⟨rfl, rfl, rfl⟩ := trodAll_nil r2
 obtain rfl : args = #[v0, v1, v2] := by cases args; simp_all
 obtain ⟨rfl, rfl⟩ := trodVars_none hV
 have k0 := h0
 have lt0 := lt_of_trod h0
 obtain ⟨a0, rfl, rfl, rfl, w0⟩ := open_int Tryz.underlying3 (hval 0 3 v0 rfl rfl) h0
 have k1 := h1
 have lt1 := lt_of_trod h1
 obtain ⟨N1, hN1, rfl⟩ := open_nat (hval 1 40 v1 rfl rfl) h1
 have k2 := h2
 have lt2 := lt_of_trod h2
 obtain ⟨ab2, n2, c2, I2, Y2, gb2, ob2, bcs2, tb2, rfl, hc2, _, hn2, hy2, hi2⟩ := open_shs (hval 2 59 v2 rfl rfl) h2
 clear hA0 hval0
 refine (walk a0 N1 ab2 n2 c2 I2 Y2 gb2 ob2 bcs2 tb2 W (bounds_i64 w0) hN1 hc2 hn2 hy2 hi2).mono fun e W' ⟨he, bel⟩ => ?_
 subst he
 exact ⟨_, rfl, _, _, _, [], _, [], hW', trodAll_mk1 (shut_bool Tryz.underlying4 _), (trodAll_cons_mk (Below.trod laidOut (by kernel_rfl) (of_decide_eq_true (by kernel_rfl)) k0 bel lt0) (trodAll_cons_mk (Below.trod laidOut (by kernel_rfl) (of_decide_eq_true (by kernel_rfl)) k1 bel lt1) (trodAll_cons_mk (Below.trod laidOut (by kernel_rfl) (of_decide_eq_true (by kernel_rfl)) k2 bel lt2) trodAll_mk0))), rfl, bel.frame _, fun h => by cases h⟩
theorem over : Rows.commitFromRow.holds Tryz.pinned (OpenSpec.ofChange Rows.commitFromSpec) :=
 OpenClaim.holds_of_wide 6 Tryz.f6 rfl rfl rfl rfl rfl rfl rfl ⟨rfl, rfl, rfl, rfl, rfl⟩ rfl rfl rfl rfl rfl (by kernel_rfl) Tryz.func6 (by kernel_rfl)
  (of_decide_eq_true (by kernel_rfl)) (by unfold Func.isWrapper; first | (rw [if_pos (by decide +kernel)]; kernel_rfl) | (rw [if_neg (by decide +kernel)]; exact ⟨rfl, rfl⟩))
  (fun os started H enc _ => lifted os started H enc)
end commitFromP
/-- for every number, natural and list of shares: in a small group, of a list of at most 8, the commitments of the first one and of the shares, or that there are none, are as the document says; no condition. -/
theorem commitFrom_holds : Rows.CommitFromSaid := commitFromP.over
end Go.Proofs.YtgdalihjpemjiaaGreat
