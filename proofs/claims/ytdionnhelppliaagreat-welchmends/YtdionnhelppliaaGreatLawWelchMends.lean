/- WelchMends: for every number, list of naturals and two numbers: in one of the three groups, of a list of 1 to 3, whichever of the seven shares are others, as long as no more are than may be, and whatever they say: the polynomial comes back, and the wrong ones are told; no condition. -/
import Derived.Test.YtdionnhelppliaaGreatWeAwake
import Derived.Test.YtdionnhelppliaaGreatGU
set_option maxRecDepth 100000
set_option maxHeartbeats 2000000
namespace Go.Proofs.YtdionnhelppliaaGreat
open Go.ChangeShapes Go.WideShapes Go.ChangeAt Go.RowKit
namespace welchMendsP
set_option linter.unusedVariables false
set_option linter.unusedSectionVars false
set_option linter.unusedSimpArgs false
/-- A bit of a number. -/
def bt (x : Int) (i : Nat) : Bool := decide (x / 2 ^ i % 2 = 1)
def ly1 (x : Int) : Nat := (x % 2).toNat
theorem and_ly1 (x : Int) : bits .and .i64 x 1 = ((ly1 x : Nat) : Int) := by
 show IntKind.i64.wrap ((BitVec.ofInt 64 x &&& BitVec.ofInt 64 1).toNat : Int) = _
 have h15 : (BitVec.ofInt 64 1).toNat = 2 ^ 1 - 1 := by decide
 rw [BitVec.toNat_and, h15, Nat.and_two_pow_sub_one_eq_mod, BitVec.toNat_ofInt]
 have e : (x % ((2 ^ 64 : Nat) : Int)).toNat % 2 ^ 1 = ly1 x := by
  unfold ly1
  omega
 rw [e, IntKind.wrap_i64]
 have : ly1 x < 2 := by unfold ly1; omega
 omega
theorem bt_is (x : Int) (i : Nat) : decide (((ly1 (x / 2 ^ i) : Nat) : Int) = 1) = bt x i := by
 unfold bt ly1
 exact decide_eq_decide.2 ⟨fun h => by omega, fun h => by omega⟩
theorem exec_shr_z {P : Program} {o : Oper} {ρ : Operand → Value} (t : TypeId) (x y : Operand) (u : TypeId) (ho : o.op = .binOp .shr t x y u) (n : Int) (s : Nat) (hx : ρ x = .int .i64 n) (hy : ρ y = .int .i64 s) (hs : s < 64) (w : World) :
  (execOp ρ o).run P w = .ok (.value (.int .i64 (n / 2 ^ s))) w := by
 unfold execOp
 simp only [ho, hx, hy]
 simp [go_sem]
theorem pk_big (m : Nat) : 1000 < lN (pk m leL otL grL) (pk m 3 3 5 - 2) := by
 unfold pk
 split
 ·decide +kernel
 ·split <;> decide +kernel
theorem lit_sh1 (i : Int) (y k : Nat) (hk : k = 5) : Instr.fill (fun i => some (i * k, k)) ((Array.range (1 * k)).map ((Value.agg #[.int .i64 0, .int .u64 0, .int .u64 0, .int .u64 0, .int .u64 0]).cells[· % (Value.agg #[.int .i64 0, .int .u64 0, .int .u64 0, .int .u64 0, .int .u64 0]).cells.size]!)) [(0, .agg (shC i y))] = some (shC i y) := by
 subst hk
 unfold shC natC
 generalize lm y 0 = a
 generalize lm y 1 = b
 generalize lm y 2 = c
 generalize lm y 3 = d
 kernel_rfl
theorem cells_i2 : Tryz.prog.cellsOf 39 = 2 := by kernel_rfl
theorem cells_i1 : Tryz.prog.cellsOf 3 = 1 := by kernel_rfl
theorem open_i2 {H : Type} {enc : TypeId × Value → H} {W : World} {base : Nat} {v0 : Value} {d0 : DataW H} {p0 : List MemPlace}
  (hv : Value.okWide Tryz.prog W .any base 39 v0) (h0 : DataW.Trod enc Tryz.prog W 0 (fun _ => true) true 39 v0 d0 p0) :
  ∃ x y : Int, v0 = .agg #[.int .i64 x, .int .i64 y] ∧ x ≤ 9223372036854775807 := by
 obtain ⟨cs, rfl, hsz, _⟩ : ∃ cs, v0 = .agg cs ∧ cs.size = Tryz.prog.cellsOf 39 ∧ Row.okWide Tryz.prog W .any base 39 cs := by
  simpa [Value.okWide, Tryz.underlying39] using hv
 rw [cells_i2] at hsz
 obtain ⟨l⟩ := cs
 obtain ⟨c0, c1, rfl⟩ := list2 l hsz
 obtain ⟨fuel, hf⟩ := h0
 obtain ⟨y0, y1, m, hy0, hy1⟩ := trod_array2 Tryz.underlying39 cells_i1 hf
 obtain ⟨x, e1, _, hw⟩ := DataW.trod_int Tryz.underlying3 hy0
 obtain ⟨y, e2, _, _⟩ := DataW.trod_int Tryz.underlying3 hy1
 refine ⟨x, y, ?_, (bounds_i64 hw).2⟩
 have e3 : c0 = .int .i64 x := by simpa using e1
 have e4 : c1 = .int .i64 y := by simpa using e2
 rw [e3, e4]
theorem and_f15 (x : Int) : bits .and .i64 x 15 = (((x % 16).toNat : Nat) : Int) := by
 show IntKind.i64.wrap ((BitVec.ofInt 64 x &&& BitVec.ofInt 64 15).toNat : Int) = _
 have h15 : (BitVec.ofInt 64 15).toNat = 2 ^ 4 - 1 := by decide
 rw [BitVec.toNat_and, h15, Nat.and_two_pow_sub_one_eq_mod, BitVec.toNat_ofInt]
 have e : (x % ((2 ^ 64 : Nat) : Int)).toNat % 2 ^ 4 = (x % 16).toNat := by omega
 rw [e, IntKind.wrap_i64]
 omega
/-- What a wrong share says. -/
def nv0 (y : Int) (k : Nat) : Nat := (y / 2 ^ (4 * k) % 16).toNat
def nvN (y : Int) (k : Nat) : Nat := (nv0 y k + k) % 16
theorem sh_puty (i : Int) (y z : Nat) : putL (shC i y) (0 + 1) (natC z).toList = shC i z := by
 unfold shC natC
 rfl
section
variable (YY NV : Nat → Nat) (b : Nat → Bool) (e : Nat)
/-- How many are wrong, of the first ones. -/
def wcN : Nat → Nat
 | 0 => 0
 | k + 1 => wcN k + (if (if b k = true ∧ wcN k < e then NV k else YY k) = YY k then 0 else 1)
/-- What the shares say. -/
def zzN (k : Nat) : Nat := if b k = true ∧ wcN YY NV b e k < e then NV k else YY k
theorem wc_len : ∀ k, (wlL (fun i => i + 1) (fun k => !decide (zzN YY NV b e k = YY k)) k).length = wcN YY NV b e k
 | 0 => rfl
 | k + 1 => by
  show _ = wcN YY NV b e k + (if zzN YY NV b e k = YY k then 0 else 1)
  by_cases h : zzN YY NV b e k = YY k
  ·rw [wl_no (by rw [decide_eq_true h]; rfl), wc_len k, if_pos h, Nat.add_zero]
  ·rw [wl_yes (by rw [decide_eq_false h]; rfl), List.length_append, wc_len k, if_neg h]
   rfl
theorem wc_le : ∀ k, wcN YY NV b e k ≤ e
 | 0 => Nat.zero_le _
 | k + 1 => by
  have h := wc_le k
  show wcN YY NV b e k + (if zzN YY NV b e k = YY k then 0 else 1) ≤ e
  by_cases h2 : zzN YY NV b e k = YY k
  ·rw [if_pos h2]; omega
  ·rw [if_neg h2]
   by_cases h3 : b k = true ∧ wcN YY NV b e k < e
   ·omega
   ·exact absurd (if_neg h3) h2
end
theorem core0 (a0 x y : Int) (n c : Nat) (ab : Option Addr) (w : World) (h : n < 1 ∨ 3 < n) :
  Calls Tryz.prog 4 #[.int .i64 a0, .slice ab n c, .agg #[.int .i64 x, .int .i64 y]] w fun e w' => e = .returned (.bool true) ∧ Below w.heap.size w w' := by
 have haw := awake15_any
 go_enter Tryz.func4, Tryz.ntmps4
 have sb := sbmk w
 repeat ((fail_if_success with_reducible apply rg); go_step)
 refine rp ?_;refine pw_boxr (by rfl) 39 _ rfl (#[.int .i64 x, .int .i64 y]) rfl ?_;intro g5 z0 n0 r5 k;simp only [pv]
 have b5 := Nat.le_trans sb.size n0
 clear n0;replace sb := kk sb k;clear k;refine p_v (.bool false) (fun _ => rfl) (pw_nil ?_);simp only [pv];clear r5
 by_cases h1 : n < 1
 ·repeat ((fail_if_success with_reducible apply rg); go_step)
  refine rp ?_;refine p_m ?_;simp only [pv];refine p_v (.int .i64 n) (n_l ab n c sl_natsX) ?_;refine p_v (.bool true) (lt_t n 1) ?_;refine p_m ?_;refine p_s ?_;refine p_s ?_;simp only [pv];refine p_s ?_;refine p_k true (.bool true) (pw_nil ?_);simp only [pv]
  repeat ((fail_if_success with_reducible apply rg); go_step)
  refine rp ?_;refine p_c 6 Tryz.func6 #[] (haw _) ?_;intro z2000 k;simp only [pv];replace sb := kk sb k;clear k;refine p_a (pw_nil ?_);simp only [pv]
  go_wp2
  go_ret
  exact ⟨rfl, sb⟩
 ·repeat ((fail_if_success with_reducible apply rg); go_step)
  refine rp ?_;refine p_m ?_;simp only [pv];refine p_v (.int .i64 n) (n_l ab n c sl_natsX) ?_;refine p_v (.bool false) (lt_f n 1) ?_;refine p_m ?_;refine p_m ?_;simp only [pv];refine p_v (.int .i64 n) (n_l ab n c sl_natsX) ?_;refine p_v (.bool true) (gt_t n 3) ?_;refine p_k false (.bool true) (pw_nil ?_);simp only [pv]
  repeat ((fail_if_success with_reducible apply rg); go_step)
  refine rp ?_;refine p_c 6 Tryz.func6 #[] (haw _) ?_;intro z2000 k;simp only [pv];replace sb := kk sb k;clear k;refine p_a (pw_nil ?_);simp only [pv]
  go_wp2
  go_ret
  exact ⟨rfl, sb⟩
set_option maxHeartbeats 4000000 in
theorem core1 (a0 x y : Int) (m0 mm GG PP QQ n0 n1 n2 G0 G1 G2 : Nat) (L0 L1 L2 : Array Value) (n c e : Nat) (ab : Option Addr) (YY ZZ : Nat → Nat) (TT : List (Fin QQ)) (w : World) [NeZero QQ] (hm0 : bits .and .i64 a0 255 = (m0 : Int)) (hmm : m0 % 3 = mm) (hn : n ≤ 3) (hn1 : 1 ≤ n) (hYY : ∀ k, YY k < 2 ^ 256)
  (hZ1 : ∀ i, (bt x i = false ∨ e ≤ (wlL (fun i => i + 1) (fun k => !decide (ZZ k = YY k)) (i)).length) → ZZ i = YY i) (hZ2 : ∀ i, bt x i = true → (wlL (fun i => i + 1) (fun k => !decide (ZZ k = YY k)) (i)).length < e → ZZ i = nvN y i)
  (hle : ∀ w', Calls Tryz.prog 19 #[.int .i64 ((n - 1 : Nat) : Int), .int .i64 7] w' fun e' w2 => e' = .returned (.int .i64 (e : Nat)) ∧ Below w'.heap.size w' w2)
  (hde : ∀ g gr gf w', Below w.heap.size w w' → GrpAt w' g gr gf PP QQ GG → Calls Tryz.prog 18 #[.pointer (some ⟨g, 0, none⟩), .slice ab n c, .int .i64 7] w' fun e w2 => ∃ gL, e = .returned (.tuple #[.slice (some ⟨gL, 0, none⟩) 7 7, .int .i64 0]) ∧ w'.heap.size ≤ gL ∧ Row w2 gL (esC 5 7 (fun k => shC ((k + 1 : Nat) : Int) (YY k))) 54 ∧ Below w'.heap.size w' w2)
  (hdc : ∀ g gr gf w' ap cp gp cur, 7 ≤ cp → GrpAt w' g gr gf PP QQ GG → ElsAt 5 w' ap 7 (fun k => shC ((k + 1 : Nat) : Int) (ZZ k)) gp 0 cur 54 → Calls Tryz.prog 21 #[.pointer (some ⟨g, 0, none⟩), .int .i64 ((n - 1 : Nat) : Int), .slice ap 7 cp] w' fun e w2 => ∃ vf vb, e = .returned (.tuple #[vf, vb, .int .i64 0]) ∧ PlAt w2 vf TT ∧ WlAt w2 vb (wlL (fun i => i + 1) (fun k => !decide (ZZ k = YY k)) (7)) ∧ Below w'.heap.size w' w2)
  (hde2 : ∀ g gr gf w' vf, GrpAt w' g gr gf PP QQ GG → PlAt w' vf TT → Calls Tryz.prog 18 #[.pointer (some ⟨g, 0, none⟩), vf, .int .i64 7] w' fun e w2 => ∃ gL, e = .returned (.tuple #[.slice (some ⟨gL, 0, none⟩) 7 7, .int .i64 0]) ∧ w'.heap.size ≤ gL ∧ Row w2 gL (esC 5 7 (fun k => shC ((k + 1 : Nat) : Int) (YY k))) 54 ∧ Below w'.heap.size w' w2)
  (hA0 : ∀ w', Calls Tryz.prog 15 #[] w' fun e w2 => ∃ g, e = .returned (.agg (paC (some ⟨g, 0, none⟩) n0 n0 G0)) ∧ w'.heap.size ≤ g ∧ Row w2 g L0 84 ∧ Below w'.heap.size w' w2)
  (hA1 : ∀ w', Calls Tryz.prog 16 #[] w' fun e w2 => ∃ g, e = .returned (.agg (paC (some ⟨g, 0, none⟩) n1 n1 G1)) ∧ w'.heap.size ≤ g ∧ Row w2 g L1 84 ∧ Below w'.heap.size w' w2)
  (hA2 : ∀ w', Calls Tryz.prog 17 #[] w' fun e w2 => ∃ g, e = .returned (.agg (paC (some ⟨g, 0, none⟩) n2 n2 G2)) ∧ w'.heap.size ≤ g ∧ Row w2 g L2 84 ∧ Below w'.heap.size w' w2)
  (hnw : ∀ w' x, Row w' x (pk mm L0 L1 L2) 84 → Calls Tryz.prog 14 #[.agg (paC (some ⟨x, 0, none⟩) (pk mm n0 n1 n2) (pk mm n0 n1 n2) (pk mm G0 G1 G2))] w' fun e w2 => ∃ g gr gf, e = .returned (.tuple #[.pointer (some ⟨g, 0, none⟩), .int .i64 0]) ∧ GrpAt w2 g gr gf PP QQ GG ∧ Below w'.heap.size w' w2) :
  Calls Tryz.prog 4 #[.int .i64 a0, .slice ab n c, .agg #[.int .i64 x, .int .i64 y]] w fun e w' => e = .returned (.bool true) ∧ Below w.heap.size w w' := by
 have haw := awake15_any
 obtain ⟨ip, hip, hzp, hszp⟩ := info_pa'
 have hp1 : ¬ 3 * ip.size > 2 ^ 24 := by rw [hszp]; decide
 have hp2 : ¬ 3 * ip.size = 0 := by rw [hszp]; decide
 have hlp := fun x y z n m l X Y Z => lit_pas x y z n m l X Y Z ip.size hszp
 have hMM : Hid (m0 % 3 = mm) := hmm
 have hm3 : mm < 3 := by rw [← hmm]; exact Nat.mod_lt _ (by decide)
 obtain ⟨ie, hie, hz, hsz, hby⟩ := info_shb
 obtain ⟨ii, hii, hzi, hszi, _⟩ := info_int'
 have hs1 : ¬ 1 * ie.size > 2 ^ 24 := by rw [hsz]; decide
 have hs2 : ¬ 1 * ie.size = 0 := by rw [hsz]; decide
 have hi1 : ¬ 1 * ii.size > 2 ^ 24 := by rw [hszi]; decide
 have hi2 : ¬ 1 * ii.size = 0 := by rw [hszi]; decide
 have hli := fun a => lit_i1 a ii.size hszi
 obtain ⟨CC, hCC⟩ : ∃ CC : Nat → Array Value, ∀ k, CC k = shC ((k + 1 : Nat) : Int) (ZZ k) := ⟨_, fun _ => rfl⟩
 have HC5 : Hid (∀ k, (CC k).size = 5) := fun k => by rw [hCC]; rfl
 have HCo : Hid (∀ k, (CC k).all (·.oneCell') = true) := fun k => by rw [hCC]; exact sh_one _ _
 have HCC : Hid (∀ k, CC k = shC ((k + 1 : Nat) : Int) (ZZ k)) := hCC
 have HLi : Hid (∀ i, Instr.fill (fun i => some (i * ie.size, ie.size)) ((Array.range (1 * ie.size)).map ((Value.agg #[.int .i64 0, .int .u64 0, .int .u64 0, .int .u64 0, .int .u64 0]).cells[· % (Value.agg #[.int .i64 0, .int .u64 0, .int .u64 0, .int .u64 0, .int .u64 0]).cells.size]!)) [(0, .agg (shC ((i + 1 : Nat) : Int) (ZZ i)))] = some (CC i)) := fun i => by
  rw [hCC]
  exact lit_sh1 _ _ _ hsz
 have HSZ : Hid (∀ k : Nat, (shC ((k + 1 : Nat) : Int) (YY k)).size = 5) := fun k => rfl
 have HZ1 : Hid (∀ i, (bt x i = false ∨ e ≤ (wlL (fun i => i + 1) (fun k => !decide (ZZ k = YY k)) (i)).length) → ZZ i = YY i) := hZ1
 have HZ2 : Hid (∀ i, bt x i = true → (wlL (fun i => i + 1) (fun k => !decide (ZZ k = YY k)) (i)).length < e → ZZ i = nvN y i) := hZ2
 have HYY : Hid (∀ k, YY k < 2 ^ 256) := hYY
 have hsw := fun w' va vb (h1 : WlAt w' va (wlL (fun i => i + 1) (fun k => !decide (ZZ k = YY k)) (7))) (h2 : WlAt w' vb (wlL (fun i => i + 1) (fun k => !decide (ZZ k = YY k)) (7))) => same_wl va vb _ w' (Nat.le_trans (wl_le _ _ _) (by decide)) h1 h2
 clear hmm hCC hszp hZ1 hZ2 hYY
 go_enter Tryz.func4, Tryz.ntmps4
 have sb := sbmk w
 repeat ((fail_if_success with_reducible apply rg); go_step)
 refine rp ?_;refine pw_boxr (by rfl) 39 _ rfl (#[.int .i64 x, .int .i64 y]) rfl ?_;intro g5 z0 n0 r5 k;simp only [pv]
 have b5 := Nat.le_trans sb.size n0
 clear n0;replace sb := kk sb k;clear k;refine p_v (.bool false) (fun _ => rfl) (pw_nil ?_);simp only [pv]
 repeat ((fail_if_success with_reducible apply rg); go_step)
 refine rp ?_;refine p_m ?_;simp only [pv];refine p_v (.int .i64 n) (n_l ab n c sl_natsX) ?_;refine p_v (.bool false) (lt_f n 1) ?_;refine p_m ?_;refine p_m ?_;simp only [pv];refine p_v (.int .i64 n) (n_l ab n c sl_natsX) ?_;refine p_v (.bool false) (gt_f n 3) ?_;refine p_k false (.bool false) (pw_nil ?_);simp only [pv]
 repeat ((fail_if_success with_reducible apply rg); go_step)
 refine rp ?_;refine p_f 15 Tryz.func15 #[] (hA0 _) ?_
 rintro _ z3000 ⟨gU, rfl, nU, rU, hb⟩
 refine ⟨_, rfl, ?_⟩
 simp only [pv]
 have d5xU := l_l r5.lt nU
 have bU := Nat.le_trans sb.size nU
 clear nU
 have k := Kept.ofBelow hb
 clear hb;replace r5 := k.ro r5;replace sb := kk sb k;clear k;refine p_f 16 Tryz.func16 #[] (hA1 _) ?_
 rintro _ z3001 ⟨gV, rfl, nV, rV, hb⟩
 refine ⟨_, rfl, ?_⟩
 simp only [pv]
 have d5xV := l_l r5.lt nV
 have dUxV := l_l rU.lt nV
 have bV := Nat.le_trans sb.size nV
 clear nV
 have k := Kept.ofBelow hb
 clear hb;replace r5 := k.ro r5;replace rU := k.ro rU;replace sb := kk sb k;clear k;refine p_f 17 Tryz.func17 #[] (hA2 _) ?_
 rintro _ z3002 ⟨gW, rfl, nW, rW, hb⟩
 refine ⟨_, rfl, ?_⟩
 simp only [pv]
 have d5xW := l_l r5.lt nW
 have dUxW := l_l rU.lt nW
 have dVxW := l_l rV.lt nW
 have bW := Nat.le_trans sb.size nW
 clear nW
 have k := Kept.ofBelow hb
 clear hb;replace r5 := k.ro r5;replace rU := k.ro rU;replace rV := k.ro rV;replace sb := kk sb k;clear k;refine pw_litr (by rfl) 49 47 3 _ rfl (pasC (some ⟨gU, 0, none⟩) (some ⟨gV, 0, none⟩) (some ⟨gW, 0, none⟩) n0 n1 n2 G0 G1 G2) ip _ Tryz.underlying49 hip hzp hp1 hp2 [(0, .agg (paC (some ⟨gU, 0, none⟩) n0 n0 G0)), (1, .agg (paC (some ⟨gV, 0, none⟩) n1 n1 G1)), (2, .agg (paC (some ⟨gW, 0, none⟩) n2 n2 G2))] rfl (hlp _ _ _ _ _ _ _ _ _) ?_;intro gT z3003 n0 rT k;simp only [pv]
 have d5xT := l_l r5.lt n0
 have dUxT := l_l rU.lt n0
 have dVxT := l_l rV.lt n0
 have dWxT := l_l rW.lt n0
 have bT := Nat.le_trans sb.size n0
 clear n0;replace r5 := k.ro r5;replace rU := k.ro rU;replace rV := k.ro rV;replace rW := k.ro rW;replace sb := kk sb k;clear k;refine p_m ?_;simp only [pv];refine p_v (.int .i64 (m0 : Nat)) (fun w' => (exec_bits_i .and _ _ _ _ (.inl rfl) rfl a0 255 rfl rfl w').trans (by rw [hm0])) ?_;simp only [pv];refine p_v (.int .i64 (mm : Nat)) (fun w' => (exec_rem_i _ _ _ _ rfl m0 3 rfl rfl (by decide) w').trans (by rw [hMM.out])) ?_;simp only [pv];refine p_x mm hm3 Tryz.underlying49 Tryz.sizeOf47 ?_;simp only [pv];refine pw_loadm (by rfl) 47 _ rfl _ (0 + mm * 5) rfl rT.r (paC (some ⟨pk mm gU gV gW, 0, none⟩) (pk mm n0 n1 n2) (pk mm n0 n1 n2) (pk mm G0 G1 G2)) (pas_part gU gV gW n0 n1 n2 G0 G1 G2 mm hm3) _ Tryz.underlying47 rfl size_pa ?_;simp only [pv];refine p_f 14 Tryz.func14 #[.agg (paC (some ⟨pk mm gU gV gW, 0, none⟩) (pk mm n0 n1 n2) (pk mm n0 n1 n2) (pk mm G0 G1 G2))] (hnw _ _ (pk_row mm rU rV rW)) ?_
 rintro _ z3009 ⟨g, gr, gf, rfl, ⟨rG, rR, rF⟩, hb⟩
 refine ⟨_, rfl, ?_⟩
 simp only [pv]
 have k := Kept.ofBelow hb
 clear hb;replace r5 := k.ro r5;replace rU := k.ro rU;replace rV := k.ro rV;replace rW := k.ro rW;replace rT := k.ro rT;replace sb := kk sb k;clear k;refine p_m ?_;refine p_e ?_;refine p_e ?_;refine p_a ?_;refine p_a (pw_nil ?_);simp only [pv];clear rU rV rW rT hA0 hA1 hA2 hnw hlp hip hzp hp1 hp2 bU bV bW bT
 repeat ((fail_if_success with_reducible apply rg); go_step)
 refine rp ?_;refine p_m ?_;refine p_m ?_;simp only [pv];refine p_f 18 Tryz.func18 #[.pointer (some ⟨g, 0, none⟩), .slice ab n c, .int .i64 7] (hde g gr gf _ sb (⟨rG, rR, rF⟩ : GrpAt _ g gr gf PP QQ GG)) ?_
 rintro _ z4002 ⟨gL, rfl, nL, rL, hb⟩
 refine ⟨_, rfl, ?_⟩
 simp only [pv]
 have dGxL := l_l rG.lt nL
 have dRxL := l_l rR.lt nL
 have dFxL := l_l rF.lt nL
 have d5xL := l_l r5.lt nL
 have bL := Nat.le_trans sb.size nL
 clear nL
 have k := Kept.ofBelow hb
 clear hb;replace rG := k.ro rG;replace rR := k.ro rR;replace rF := k.ro rF;replace r5 := k.ro r5;replace sb := kk sb k;clear k;refine p_m ?_;refine p_e ?_;refine p_e ?_;refine p_a ?_;refine p_a (pw_nil ?_);simp only [pv];clear hde
 repeat ((fail_if_success with_reducible apply rg); go_step)
 refine rp ?_;refine p_m ?_;simp only [pv];refine p_v (.bool false) (exec_neq_k .i64 _ _ _ _ rfl 0 0 rfl rfl false rfl) ?_;refine p_m ?_;refine p_m ?_;simp only [pv];refine p_v (.bool false) (exec_neq_k .i64 _ _ _ _ rfl 0 0 rfl rfl false rfl) ?_;refine p_k false (.bool false) ?_;refine p_m ?_;refine p_m ?_;simp only [pv];refine p_v (.int .i64 7) (n_l (some ⟨gL, 0, none⟩) 7 7 sl_shs) ?_;simp only [pv];refine p_v (.bool false) (exec_neq_k .i64 _ _ _ _ rfl 7 7 rfl rfl false rfl) ?_;refine p_k false (.bool false) (pw_nil ?_);simp only [pv]
 repeat ((fail_if_success with_reducible apply rg); go_step)
 refine rp ?_;refine p_v (.slice none 0 0) ((fun _ => rfl)) (pw_nil ?_);simp only [pv]
 repeat ((fail_if_success with_reducible apply rg); go_step)
 refine rp ?_;refine p_v (.slice none 0 0) ((fun _ => rfl)) (pw_nil ?_);simp only [pv]
 repeat ((fail_if_success with_reducible apply rg); go_step)
 refine rp ?_;refine p_v (.int .i64 0) (fun _ => rfl) (pw_nil ?_);simp only [pv]
 go_wp2_with fail
 go_loopg [11, 12, 13] 7 (fun yv s11 s12 s13 wr => ∃ (i m : Nat) (u : Nat → Nat), i + yv = 7 ∧ s13 = .int .i64 i ∧ OwnE 5 54 wr w.heap.size s11 i CC ∧ OwnI wr w.heap.size s12 m u ∧ (wlL (fun i => i + 1) (fun k => !decide (ZZ k = YY k)) (i)) = (List.range m).map u ∧ (∀ b, s12.ownBlock = some b → s11.ownBlock ≠ some b) ∧ s11.ownBlock ≠ some g ∧ s11.ownBlock ≠ some gr ∧ s11.ownBlock ≠ some gf ∧ s11.ownBlock ≠ some gL ∧ s11.ownBlock ≠ some g5 ∧ s12.ownBlock ≠ some g ∧ s12.ownBlock ≠ some gr ∧ s12.ownBlock ≠ some gf ∧ s12.ownBlock ≠ some gL ∧ s12.ownBlock ≠ some g5 ∧ GrpAt wr g gr gf PP QQ GG ∧ Row wr gL (esC 5 7 (fun k => shC ((k + 1 : Nat) : Int) (YY k))) 54 ∧ Row wr g5 #[.int .i64 x, .int .i64 y] 39 ∧ Below w.heap.size w wr)
 case atStart => exact ⟨0, 0, fun _ => 0, by omega, rfl, ownE_nil _ _ _ _, ownI_nil _ _ _, rfl, (fun b h => by cases h), nofun, nofun, nofun, nofun, nofun, nofun, nofun, nofun, nofun, nofun, ⟨rG, rR, rF⟩, rL, r5, sb⟩
 case round =>
  clear rG rR rF rL r5 sb
  obtain ⟨i, m, u, hi, rfl, hP, hL, hwl, zhPxhL, ehPxG, ehPxR, ehPxF, ehPxL, ehPx5, ehLxG, ehLxR, ehLxF, ehLxL, ehLx5, ⟨rG, rR, rF⟩, rL, r5, sb⟩ := hrel
  have zhLxhP := own_sym zhPxhL
  obtain ⟨av, cv, rfl⟩ := own_shape hL
  have HWL : Hid ((wlL (fun i => i + 1) (fun k => !decide (ZZ k = YY k)) (i)) = (List.range m).map u) := hwl
  have hlm : (wlL (fun i => i + 1) (fun k => !decide (ZZ k = YY k)) (i)).length = m := by rw [hwl]; simp
  have hmi : m ≤ i := by rw [← hlm]; exact wl_le _ _ _
  clear hwl
  cases gk with
  | zero =>
   obtain rfl : i = 7 := by omega
   clear hi hlm
   obtain ⟨ap, cp, gp, cur, rfl, hcp, hpp⟩ := ownE_els HC5.out hP
   have hpe := hpp.congr (fun k _ => HCC.out k)
   obtain ⟨_, gc, cuc, hnu⟩ := ownI_nums hL
   have hwt : WlAt _ (.slice av m cv) (wlL (fun i => i + 1) (fun k => !decide (ZZ k = YY k)) (7)) := ⟨av, m, cv, u, gc, 0, cuc, _, rfl, HWL.out, hnu⟩
   clear hP hpp hL hnu ehPxG ehPxR ehPxF ehPxL ehPx5 ehLxG ehLxR ehLxF ehLxL ehLx5 zhPxhL zhLxhP r5 hle
   repeat ((fail_if_success with_reducible apply rg); go_step)
   refine rp ?_;refine p_m ?_;refine p_v (.bool false) (lt_f 7 7) ?_;refine p_m ?_;refine p_s ?_;refine p_s ?_;simp only [pv];refine p_s ?_;refine p_s ?_;refine p_k false (.bool false) (pw_nil ?_);simp only [pv]
   repeat ((fail_if_success with_reducible apply rg); go_step)
   refine rp ?_;refine p_m ?_;refine p_m ?_;simp only [pv];refine p_v (.int .i64 n) (n_l ab n c sl_natsX) ?_;simp only [pv];refine p_v (.int .i64 ((n - 1 : Nat) : Int)) ((fun w' => (exec_sub_in _ _ _ _ rfl n 1 rfl rfl (by omega) (by omega) w'))) ?_;refine p_m ?_;simp only [pv];refine p_f 21 Tryz.func21 #[.pointer (some ⟨g, 0, none⟩), .int .i64 ((n - 1 : Nat) : Int), .slice ap 7 cp] (hdc g gr gf _ ap cp gp cur hcp (⟨rG, rR, rF⟩ : GrpAt _ g gr gf PP QQ GG) hpe) ?_
   rintro _ z18005 ⟨vf, vb, rfl, hf, hW, hb⟩
   refine ⟨_, rfl, ?_⟩
   simp only [pv]
   have k := Kept.ofBelow hb
   clear hb;replace rG := k.ro rG;replace rR := k.ro rR;replace rF := k.ro rF;replace rL := k.ro rL;replace hpe := hpe.below k.nil;replace hwt := hwt.below k.nil;replace sb := kk sb k;clear k;refine p_m ?_;refine p_e ?_;refine p_e ?_;refine p_e ?_;refine p_a ?_;simp only [pv];refine p_a ?_;refine p_a (pw_nil ?_);simp only [pv];clear hpe hdc
   repeat ((fail_if_success with_reducible apply rg); go_step)
   refine rp ?_;refine p_m ?_;refine p_m ?_;simp only [pv];refine p_f 18 Tryz.func18 #[.pointer (some ⟨g, 0, none⟩), vf, .int .i64 7] (hde2 g gr gf _ _ (⟨rG, rR, rF⟩ : GrpAt _ g gr gf PP QQ GG) hf) ?_
   rintro _ z19002 ⟨gK, rfl, nK, rK, hb⟩
   refine ⟨_, rfl, ?_⟩
   simp only [pv]
   have dGxK := l_l rG.lt nK
   have dRxK := l_l rR.lt nK
   have dFxK := l_l rF.lt nK
   have dLxK := l_l rL.lt nK
   have bK := Nat.le_trans sb.size nK
   clear nK
   have k := Kept.ofBelow hb
   clear hb;replace rG := k.ro rG;replace rR := k.ro rR;replace rF := k.ro rF;replace rL := k.ro rL;replace hf := hf.below k.nil;replace hW := hW.below k.nil;replace hwt := hwt.below k.nil;replace sb := kk sb k;clear k;refine p_m ?_;refine p_e ?_;refine p_e ?_;refine p_a ?_;refine p_a (pw_nil ?_);simp only [pv];clear hde2 hf rG rR rF
   repeat ((fail_if_success with_reducible apply rg); go_step)
   refine rp ?_;refine p_m ?_;simp only [pv];refine p_v (.bool false) (exec_neq_k .i64 _ _ _ _ rfl 0 0 rfl rfl false rfl) ?_;refine p_m ?_;refine p_m ?_;simp only [pv];refine p_v (.bool false) (exec_neq_k .i64 _ _ _ _ rfl 0 0 rfl rfl false rfl) ?_;refine p_k false (.bool false) ?_;refine p_m ?_;refine p_m ?_;simp only [pv];refine p_v (.int .i64 7) (n_l (some ⟨gK, 0, none⟩) 7 7 sl_shs) ?_;simp only [pv];refine p_v (.bool false) (exec_neq_k .i64 _ _ _ _ rfl 7 7 rfl rfl false rfl) ?_;refine p_k false (.bool false) ?_;refine p_m ?_;refine p_m ?_;refine p_m ?_;simp only [pv];refine p_c 22 Tryz.func22 #[vb, .slice av m cv] (hsw _ vb _ hW hwt) ?_;intro z20014 k;simp only [pv];replace rL := k.ro rL;replace rK := k.ro rK;replace hW := hW.below k.nil;replace hwt := hwt.below k.nil;replace sb := kk sb k;clear k;refine p_v (.bool false) (exec_not _ _ rfl true rfl) ?_;refine p_k false (.bool false) (pw_nil ?_);simp only [pv];clear hW hwt hsw
   repeat ((fail_if_success with_reducible apply rg); go_step)
   refine rp ?_;refine p_v (.int .i64 0) (fun _ => rfl) (pw_nil ?_);simp only [pv]
   go_wp2_with fail
   go_loopg [20] 7 (fun z s20 wr => ∃ j : Nat, j + z = 7 ∧ s20 = .int .i64 j ∧ Row wr gL (esC 5 7 (fun k => shC ((k + 1 : Nat) : Int) (YY k))) 54 ∧ Row wr gK (esC 5 7 (fun k => shC ((k + 1 : Nat) : Int) (YY k))) 54 ∧ Below w.heap.size w wr)
   case atStart => exact ⟨0, by omega, rfl, rL, rK, sb⟩
   case round =>
    clear rL rK sb
    obtain ⟨j, hj, rfl, rL, rK, sb⟩ := hrel
    cases gk with
    | zero =>
     obtain rfl : j = 7 := by omega
     clear hj
     repeat ((fail_if_success with_reducible apply rg); go_step)
     refine rp ?_;refine p_m ?_;refine p_v (.bool false) (lt_f 7 7) ?_;refine p_m ?_;refine p_s ?_;refine p_s ?_;simp only [pv];refine p_s ?_;refine p_s ?_;refine p_k false (.bool false) ?_;refine p_m ?_;refine p_s ?_;simp only [pv];refine p_s ?_;refine p_s ?_;refine p_s ?_;refine p_k false (.bool false) (pw_nil ?_);simp only [pv]
     repeat ((fail_if_success with_reducible apply rg); go_step)
     refine rp ?_;refine p_c 6 Tryz.func6 #[] (haw _) ?_;intro z27000 k;simp only [pv];replace sb := kk sb k;clear k;refine p_a (pw_nil ?_);simp only [pv]
     go_wp2
     go_ret
     exact ⟨rfl, sb⟩
    | succ z =>
     have hlt : j < 7 := by omega
     clear haw
     repeat ((fail_if_success with_reducible apply rg); go_step)
     refine rp ?_;refine p_m ?_;refine p_v (.bool true) (lt_t j 7) ?_;refine p_m ?_;refine p_m ?_;refine p_m ?_;simp only [pv];refine p_v (.int .i64 7) (n_l (some ⟨gK, 0, none⟩) 7 7 sl_shs) ?_;refine p_v (.bool true) (lt_t j 7) ?_;refine p_k true (.bool true) ?_;refine p_m ?_;refine p_m ?_;simp only [pv];refine p_m ?_;simp only [pv];refine p_v (.int .i64 7) (n_l (some ⟨gL, 0, none⟩) 7 7 sl_shs) ?_;refine p_v (.bool true) (lt_t j 7) ?_;refine p_k true (.bool true) (pw_nil ?_);simp only [pv]
     repeat ((fail_if_success with_reducible apply rg); go_step)
     refine wp_region_qw (by kernel_rfl) (by kernel_rfl) ?_;refine q_m ?_;refine q_m ?_;simp only [pv];refine q_x j hlt Tryz.underlying50 size_sh5 ?_;simp only [pv];refine qw_loadm (by rfl) 54 _ rfl _ (0 + j * 5) rfl rK (shC ((j + 1 : Nat) : Int) (YY j)) (esC_part HSZ.out j hlt (0 + j * 5) (by omega)) _ Tryz.underlying54 rfl size_sh ?_;refine q_m ?_;refine q_m ?_;simp only [pv];refine q_x j hlt Tryz.underlying50 size_sh5 ?_;simp only [pv];refine qw_loadm (by rfl) 54 _ rfl _ (0 + j * 5) rfl rL (shC ((j + 1 : Nat) : Int) (YY j)) (esC_part HSZ.out j hlt (0 + j * 5) (by omega)) _ Tryz.underlying54 rfl size_sh ?_;simp only [pv];refine q_v (.bool false) (exec_neq_sh _ _ _ rfl ((j + 1 : Nat) : Int) (YY j) (YY j) rfl rfl false (by rw [decide_eq_true rfl]; rfl)) ?_;simp only [pv];refine qw_nil ?_;intro w2 hqb;replace rL := rL.belowAll hqb;replace rK := rK.belowAll hqb;replace sb := b_o sb hqb;clear hqb
     repeat ((fail_if_success with_reducible apply rg); go_step)
     refine rp ?_;refine p_m ?_;simp only [pv];refine p_v (.int .i64 ((j + 1 : Nat) : Int)) (x_a j 1) ?_;refine p_a (pw_nil ?_);simp only [pv]
     go_wp2
     go_roundg z
     case measure => omega
     case rel => exact ⟨j + 1, by omega, rfl, rL, rK, sb⟩
  | succ yv =>
   have hlt : i < 7 := by omega
   have hbi := bt_is x i
   clear hdc hde2 haw hsw
   repeat ((fail_if_success with_reducible apply rg); go_step)
   refine rp ?_;refine p_m ?_;refine p_v (.bool true) (lt_t i 7) ?_;refine p_m ?_;refine p_m ?_;refine p_m ?_;simp only [pv];refine p_v (.int .i64 7) (n_l (some ⟨gL, 0, none⟩) 7 7 sl_shs) ?_;refine p_v (.bool true) (lt_t i 7) ?_;refine p_k true (.bool true) (pw_nil ?_);simp only [pv]
   repeat ((fail_if_success with_reducible apply rg); go_step)
   refine rp ?_;refine p_m ?_;refine p_m ?_;simp only [pv];refine p_x i hlt Tryz.underlying50 size_sh5 ?_;simp only [pv];refine pw_loadm (by rfl) 54 _ rfl _ (0 + i * 5) rfl rL.r (shC ((i + 1 : Nat) : Int) (YY i)) (esC_part HSZ.out i hlt (0 + i * 5) (by omega)) _ Tryz.underlying54 rfl size_sh ?_;simp only [pv];refine pw_new (by rfl) 54 rfl _ zero_sh ?_;intro g14 z12004 n0 r14 k;simp only [pv]
   have dGx14 := l_l rG.lt n0
   have dRx14 := l_l rR.lt n0
   have dFx14 := l_l rF.lt n0
   have dLx14 := l_l rL.lt n0
   have d5x14 := l_l r5.lt n0
   have ehPx14 := hP.new n0
   have ehLx14 := hL.new n0
   have b14 := Nat.le_trans sb.size n0
   clear n0;replace rG := k.ro rG;replace rR := k.ro rR;replace rF := k.ro rF;replace rL := k.ro rL;replace r5 := k.ro r5
   replace hP := hP.on k (own_ne0 _)
   replace hL := hL.on k (own_ne0 _)
   replace sb := kk sb k;clear k;refine pw_put (by rfl) 54 _ _ rfl _ rfl r14 (shC ((i + 1 : Nat) : Int) (YY i)) rfl (by exact size_sh) (by rfl) (sh_one _ _) ?_;clear r14;intro z12005 r14 k;simp only [Act.put];replace rG := k.ro rG;replace rR := k.ro rR;replace rF := k.ro rF;replace rL := k.ro rL;replace r5 := k.ro r5
   replace hP := hP.on k (own_ne1 ehPx14)
   replace hL := hL.on k (own_ne1 ehLx14)
   replace sb := kk sb k;clear k;refine pw_nil ?_
   by_cases htk : bt x i = true ∧ m < e
   ·have hbx := htk.1
    have hme := htk.2
    rw [hbx] at hbi
    have hZi := HZ2.out i hbx (by rw [hlm]; exact hme)
    have hnv : nvN y i < 16 := Nat.mod_lt _ (by decide)
    have hof := fun w' => of15_any (nvN y i) w' (by omega)
    have hva : ((nv0 y i + i : Nat) : Int) % 16 = ((nvN y i : Nat) : Int) := by unfold nvN; omega
    have hnv0 : nv0 y i < 16 := by unfold nv0; omega
    repeat ((fail_if_success with_reducible apply rg); go_step)
    refine rp ?_;refine p_v (.pointer (some ⟨g5, 0, none⟩)) (exec_index 39 _ _ rfl g5 rfl 0 2 rfl (by decide) _ Tryz.underlying39 Tryz.sizeOf3) ?_;simp only [pv];refine p_d 0 r5.r (.int .i64 x) rfl Tryz.isAgg3 ?_;refine p_m ?_;simp only [pv];refine p_v (.int .i64 (x / 2 ^ i)) (exec_shr_z _ _ _ _ rfl x i rfl rfl (by omega)) ?_;simp only [pv];refine p_v (.int .i64 (ly1 (x / 2 ^ i) : Nat)) (fun w' => (exec_bits_i .and _ _ _ _ (.inl rfl) rfl (x / 2 ^ i) 1 rfl rfl w').trans (by rw [and_ly1])) ?_;simp only [pv];refine p_v (.bool true) (exec_eql_k .i64 _ _ _ _ rfl (ly1 (x / 2 ^ i) : Nat) 1 rfl rfl true hbi) ?_;refine p_m ?_;refine p_m ?_;simp only [pv];refine p_v (.int .i64 m) (n_l av m cv sl_intsX) ?_;refine p_m ?_;simp only [pv];refine p_v (.int .i64 n) (n_l ab n c sl_natsX) ?_;simp only [pv];refine p_v (.int .i64 ((n - 1 : Nat) : Int)) ((fun w' => (exec_sub_in _ _ _ _ rfl n 1 rfl rfl (by omega) (by omega) w'))) ?_;simp only [pv];refine p_c 19 Tryz.func19 #[.int .i64 ((n - 1 : Nat) : Int), .int .i64 7] (hle _) ?_;intro z13012 k;simp only [pv];replace rG := k.ro rG;replace rR := k.ro rR;replace rF := k.ro rF;replace rL := k.ro rL;replace r5 := k.ro r5
    replace hP := hP.on k (own_ne0 _)
    replace hL := hL.on k (own_ne0 _)
    replace r14 := k.ro r14;replace sb := kk sb k;clear k;refine p_v (.bool true) (lt_t m e) ?_;refine p_k true (.bool true) (pw_nil ?_);simp only [pv]
    repeat ((fail_if_success with_reducible apply rg); go_step)
    refine rp ?_;refine p_v (.pointer (some ⟨g5, 1, none⟩)) (exec_index 39 _ _ rfl g5 rfl 1 2 rfl (by decide) _ Tryz.underlying39 Tryz.sizeOf3) ?_;simp only [pv];refine p_d 1 r5.r (.int .i64 y) rfl Tryz.isAgg3 ?_;refine p_m ?_;simp only [pv];refine p_v (.int .i64 ((4 * i : Nat) : Int)) (exec_mul_in _ _ _ _ rfl 4 i (4 * i) rfl rfl rfl (by omega)) ?_;simp only [pv];refine p_v (.int .i64 (y / 2 ^ (4 * i))) (exec_shr_z _ _ _ _ rfl y (4 * i) rfl rfl (by omega)) ?_;simp only [pv]
    refine p_v (.int .i64 (nv0 y i : Nat)) (fun w' => (exec_bits_i .and _ _ _ _ (.inl rfl) rfl (y / 2 ^ (4 * i)) 15 rfl rfl w').trans (by rw [and_f15]; rfl)) ?_
    refine p_m ?_;simp only [pv];refine p_v (.int .i64 ((nv0 y i + i : Nat) : Int)) (x_a (nv0 y i) i) ?_;simp only [pv]
    refine p_v (.int .i64 (nvN y i : Nat)) (fun w' => (exec_bits_i .and _ _ _ _ (.inl rfl) rfl ((nv0 y i + i : Nat) : Int) 15 rfl rfl w').trans (by rw [and_f15, hva, Int.toNat_natCast])) ?_
    simp only [pv];refine p_c 20 Tryz.func20 #[.int .i64 (nvN y i : Nat)] (hof _) ?_;intro z14009 k;simp only [pv];replace rG := k.ro rG;replace rR := k.ro rR;replace rF := k.ro rF;replace rL := k.ro rL;replace r5 := k.ro r5
    replace hP := hP.on k (own_ne0 _)
    replace hL := hL.on k (own_ne0 _)
    replace r14 := k.ro r14;replace sb := kk sb k;clear k;refine p_v (.pointer (some ⟨g14, 0 + 1, none⟩)) (exec_field 54 _ 1 rfl g14 (0) rfl _ Tryz.underlying54 _ rfl 3 Tryz.sizeOf45) ?_;simp only [pv];refine pw_putm (by rfl) 45 _ _ rfl _ (0 + 1) rfl r14 (natC (nvN y i)) rfl (by exact size_nat) (by exact (by show 0 + 1 + 4 ≤ 5; decide)) (natC_one _) (shC ((i + 1 : Nat) : Int) (nvN y i)) (sh_puty _ _ _) ?_;clear r14;intro z14011 r14 k;simp only [Act.put];replace rG := k.ro rG;replace rR := k.ro rR;replace rF := k.ro rF;replace rL := k.ro rL;replace r5 := k.ro r5
    replace hP := hP.on k (own_ne1 ehPx14)
    replace hL := hL.on k (own_ne1 ehLx14)
    replace sb := kk sb k;clear k;refine pw_nil ?_;clear hof hva
    have hYi := HYY.out i
    have hne : (!decide (nvN y i % 2 ^ 256 = YY i % 2 ^ 256)) = !decide (nvN y i = YY i) := by rw [Nat.mod_eq_of_lt (show nvN y i < 2 ^ 256 by omega), Nat.mod_eq_of_lt hYi]
    clear hYi
    repeat ((fail_if_success with_reducible apply rg); go_step)
    refine wp_region_qw (by kernel_rfl) (by kernel_rfl) ?_;refine q_v (.pointer (some ⟨g14, 0 + 1, none⟩)) (exec_field 54 _ 1 rfl g14 (0) rfl _ Tryz.underlying54 _ rfl 3 Tryz.sizeOf45) ?_;simp only [pv];refine qw_loadm (by rfl) 45 _ rfl _ (0 + 1) rfl r14 (natC (nvN y i)) (sh_y _ _) _ Tryz.underlying45 rfl size_nat ?_;refine q_m ?_;refine q_m ?_;simp only [pv];refine q_x i hlt Tryz.underlying50 size_sh5 ?_;simp only [pv];refine q_v (.pointer (some ⟨gL, 0 + i * 5 + 1, none⟩)) (exec_field 54 _ 1 rfl gL (0 + i * 5) rfl _ Tryz.underlying54 _ rfl 3 Tryz.sizeOf45) ?_;simp only [pv];refine qw_loadm (by rfl) 45 _ rfl _ (0 + i * 5 + 1) rfl rL (natC (YY i)) (shp_y (esC_part HSZ.out i hlt (0 + i * 5) (by omega))) _ Tryz.underlying45 rfl size_nat ?_;simp only [pv];refine q_v (.bool (!decide (nvN y i = YY i))) ((fun w' => (exec_neq_nat _ _ _ rfl (nvN y i) (YY i) rfl rfl w').trans (by rw [hne]))) ?_;simp only [pv];refine qw_nil ?_;intro w2 hqb;replace rG := rG.belowAll hqb;replace rR := rR.belowAll hqb;replace rF := rF.belowAll hqb;replace rL := rL.belowAll hqb;replace r5 := r5.belowAll hqb;replace r14 := r14.belowAll hqb
    replace hP := hP.on (Kept.ofBelow hqb) (own_ne0 _)
    replace hL := hL.on (Kept.ofBelow hqb) (own_ne0 _)
    replace sb := b_o sb hqb;clear hqb;clear hne
    rw [← hZi] at r14 ⊢
    by_cases heq : ZZ i = YY i
    ·have hw2 : (wlL (fun i => i + 1) (fun k => !decide (ZZ k = YY k)) (i + 1)) = (List.range m).map u := (wl_no (by rw [decide_eq_true heq]; rfl)).trans HWL.out
     rw [decide_eq_true heq]
     repeat ((fail_if_success with_reducible apply rg); go_step)
     refine rp ?_;refine p_m ?_;simp only [pv];refine pw_loadm (by rfl) 54 _ rfl _ 0 rfl r14.r _ (part_all _) _ Tryz.underlying54 rfl size_sh ?_;simp only [pv];refine pw_litr (by rfl) 50 54 1 _ rfl (CC i) ie _ Tryz.underlying50 hie hz hs1 hs2 [(0, .agg (shC ((i + 1 : Nat) : Int) (ZZ i)))] rfl (HLi.out i) ?_;intro gA z17002 n0 rA k;simp only [pv]
     have dGxA := l_l rG.lt n0
     have dRxA := l_l rR.lt n0
     have dFxA := l_l rF.lt n0
     have dLxA := l_l rL.lt n0
     have d5xA := l_l r5.lt n0
     have ehPxA := hP.new n0
     have ehLxA := hL.new n0
     have d14xA := l_l r14.lt n0
     have bA := Nat.le_trans sb.size n0
     clear n0;replace rG := k.ro rG;replace rR := k.ro rR;replace rF := k.ro rF;replace rL := k.ro rL;replace r5 := k.ro r5
     replace hP := hP.on k (own_ne0 _)
     replace hL := hL.on k (own_ne0 _)
     replace r14 := k.ro r14;replace sb := kk sb k;clear k;refine pw_appE (by rfl) _ _ (50) rfl (w.heap.size) 54 ie _ 5 40 Tryz.underlying50 hie hz hsz hby rfl (by decide) (by decide) (_) (i) (CC) (HC5.out) rfl hP gA _ rfl rA (HCo.out _) ((by omega)) sb.size ?_
     have h0 := hP
     clear hP;intro v1 z17003 hP k hp;simp only [pv]
     have crG := rG.lt
     replace rG := k.row rG (by first | exact own_nin ehPxG | exact own_nin (h0.low (by omega)))
     have crR := rR.lt
     replace rR := k.row rR (by first | exact own_nin ehPxR | exact own_nin (h0.low (by omega)))
     have crF := rF.lt
     replace rF := k.row rF (by first | exact own_nin ehPxF | exact own_nin (h0.low (by omega)))
     have crL := rL.lt
     replace rL := k.row rL (by first | exact own_nin ehPxL | exact own_nin (h0.low (by omega)))
     have cr5 := r5.lt
     replace r5 := k.row r5 (by first | exact own_nin ehPx5 | exact own_nin (h0.low (by omega)))
     have zt := own_two hL hp zhPxhL
     replace hL := hL.on k (own_nin2 zhPxhL)
     clear zhPxhL zhLxhP
     have zhPxhL := zt
     have zhLxhP := own_sym zt
     clear zt
     have cr14 := r14.lt
     replace r14 := k.row r14 (by first | exact own_nin ehPx14 | exact own_nin (h0.low (by omega)))
     (try replace ehPxG := own_apart hp crG ehPxG)
     clear crG
     (try replace ehPxR := own_apart hp crR ehPxR)
     clear crR
     (try replace ehPxF := own_apart hp crF ehPxF)
     clear crF
     (try replace ehPxL := own_apart hp crL ehPxL)
     clear crL
     (try replace ehPx5 := own_apart hp cr5 ehPx5)
     clear cr5
     (try replace ehPx14 := own_apart hp cr14 ehPx14)
     clear cr14;clear hp
     replace sb := sb.trans (k.below w.heap.size sb.size h0.base)
     clear h0;clear k;refine p_a (pw_nil ?_);simp only [pv];clear r14
     repeat ((fail_if_success with_reducible apply rg); go_step)
     refine rp ?_;refine p_m ?_;simp only [pv];refine p_v (.int .i64 ((i + 1 : Nat) : Int)) (x_a i 1) ?_;refine p_a (pw_nil ?_);simp only [pv]
     go_wp2
     go_roundg yv
     case measure => omega
     case rel => exact ⟨i + 1, m, u, by omega, rfl, hP, hL, hw2, zhPxhL, ehPxG, ehPxR, ehPxF, ehPxL, ehPx5, ehLxG, ehLxR, ehLxF, ehLxL, ehLx5, ⟨rG, rR, rF⟩, rL, r5, sb⟩
    ·have hw1 := wl_yes (I := (fun i => i + 1)) (B := (fun k => !decide (ZZ k = YY k))) (k := i) (by rw [decide_eq_false heq]; rfl)
     rw [decide_eq_false heq]
     obtain ⟨u2, hu2⟩ : ∃ u2 : Nat → Nat, (fun j => if j = m then i + 1 else u j) = u2 := ⟨_, rfl⟩
     have hw2 : (wlL (fun i => i + 1) (fun k => !decide (ZZ k = YY k)) (i + 1)) = (List.range (m + 1)).map u2 := by rw [hw1, HWL.out, ← hu2, map_up]
     have hum : u2 m = i + 1 := by rw [← hu2]; exact if_pos rfl
     have hL3 : OwnI _ w.heap.size (.slice av m cv) m u2 := ownI_congr hL (fun j hj => by rw [← hu2]; exact (if_neg (by omega)).symm)
     clear hL hu2 hw1
     have hL := hL3
     clear hL3
     repeat ((fail_if_success with_reducible apply rg); go_step)
     refine rp ?_;refine p_m ?_;simp only [pv];refine p_v (.pointer (some ⟨g14, 0, none⟩)) (exec_field 54 _ 0 rfl g14 (0) rfl _ Tryz.underlying54 _ rfl 0 Tryz.sizeOf3) ?_;simp only [pv];refine p_d 0 r14.r (.int .i64 ((i + 1 : Nat) : Int)) (sh_i _ _) Tryz.isAgg3 ?_;simp only [pv];refine pw_litr (by rfl) 32 3 1 _ rfl #[.int .i64 (i + 1 : Nat)] ii _ Tryz.underlying32 hii hzi hi1 hi2 [(0, .int .i64 (i + 1 : Nat))] rfl (hli _) ?_;intro gB z16003 n0 rB k;simp only [pv]
     have dGxB := l_l rG.lt n0
     have dRxB := l_l rR.lt n0
     have dFxB := l_l rF.lt n0
     have dLxB := l_l rL.lt n0
     have d5xB := l_l r5.lt n0
     have ehPxB := hP.new n0
     have ehLxB := hL.new n0
     have d14xB := l_l r14.lt n0
     have bB := Nat.le_trans sb.size n0
     clear n0;replace rG := k.ro rG;replace rR := k.ro rR;replace rF := k.ro rF;replace rL := k.ro rL;replace r5 := k.ro r5
     replace hP := hP.on k (own_ne0 _)
     replace hL := hL.on k (own_ne0 _)
     replace r14 := k.ro r14;replace sb := kk sb k;clear k;refine pw_appI (by rfl) _ _ rfl (w.heap.size) (_) (m) (u2) rfl hL gB _ rfl (by rw [hum]; exact rB) (by omega) sb.size ?_
     have h0 := hL
     clear hL;intro v1 z16004 hL k hp;simp only [pv]
     have crG := rG.lt
     replace rG := k.row rG (by first | exact own_nin ehLxG | exact own_nin (h0.low (by omega)))
     have crR := rR.lt
     replace rR := k.row rR (by first | exact own_nin ehLxR | exact own_nin (h0.low (by omega)))
     have crF := rF.lt
     replace rF := k.row rF (by first | exact own_nin ehLxF | exact own_nin (h0.low (by omega)))
     have crL := rL.lt
     replace rL := k.row rL (by first | exact own_nin ehLxL | exact own_nin (h0.low (by omega)))
     have cr5 := r5.lt
     replace r5 := k.row r5 (by first | exact own_nin ehLx5 | exact own_nin (h0.low (by omega)))
     have zt := own_two hP hp zhLxhP
     replace hP := hP.on k (own_nin2 zhLxhP)
     clear zhLxhP zhPxhL
     have zhLxhP := zt
     have zhPxhL := own_sym zt
     clear zt
     have cr14 := r14.lt
     replace r14 := k.row r14 (by first | exact own_nin ehLx14 | exact own_nin (h0.low (by omega)))
     have crB := rB.lt
     replace rB := k.row rB (by first | exact own_nin ehLxB | exact own_nin (h0.low (by omega)))
     (try replace ehLxG := own_apart hp crG ehLxG)
     clear crG
     (try replace ehLxR := own_apart hp crR ehLxR)
     clear crR
     (try replace ehLxF := own_apart hp crF ehLxF)
     clear crF
     (try replace ehLxL := own_apart hp crL ehLxL)
     clear crL
     (try replace ehLx5 := own_apart hp cr5 ehLx5)
     clear cr5
     (try replace ehLx14 := own_apart hp cr14 ehLx14)
     clear cr14
     (try replace ehLxB := own_apart hp crB ehLxB)
     clear crB;clear hp
     replace sb := sb.trans (k.below w.heap.size sb.size h0.base)
     clear h0;clear k;refine p_a (pw_nil ?_);simp only [pv];clear rB
     repeat ((fail_if_success with_reducible apply rg); go_step)
     refine rp ?_;refine p_m ?_;simp only [pv];refine pw_loadm (by rfl) 54 _ rfl _ 0 rfl r14.r _ (part_all _) _ Tryz.underlying54 rfl size_sh ?_;simp only [pv];refine pw_litr (by rfl) 50 54 1 _ rfl (CC i) ie _ Tryz.underlying50 hie hz hs1 hs2 [(0, .agg (shC ((i + 1 : Nat) : Int) (ZZ i)))] rfl (HLi.out i) ?_;intro gA z17002 n0 rA k;simp only [pv]
     have dGxA := l_l rG.lt n0
     have dRxA := l_l rR.lt n0
     have dFxA := l_l rF.lt n0
     have dLxA := l_l rL.lt n0
     have d5xA := l_l r5.lt n0
     have ehPxA := hP.new n0
     have ehLxA := hL.new n0
     have d14xA := l_l r14.lt n0
     have bA := Nat.le_trans sb.size n0
     clear n0;replace rG := k.ro rG;replace rR := k.ro rR;replace rF := k.ro rF;replace rL := k.ro rL;replace r5 := k.ro r5
     replace hP := hP.on k (own_ne0 _)
     replace hL := hL.on k (own_ne0 _)
     replace r14 := k.ro r14;replace sb := kk sb k;clear k;refine pw_appE (by rfl) _ _ (50) rfl (w.heap.size) 54 ie _ 5 40 Tryz.underlying50 hie hz hsz hby rfl (by decide) (by decide) (_) (i) (CC) (HC5.out) rfl hP gA _ rfl rA (HCo.out _) ((by omega)) sb.size ?_
     have h0 := hP
     clear hP;intro v1 z17003 hP k hp;simp only [pv]
     have crG := rG.lt
     replace rG := k.row rG (by first | exact own_nin ehPxG | exact own_nin (h0.low (by omega)))
     have crR := rR.lt
     replace rR := k.row rR (by first | exact own_nin ehPxR | exact own_nin (h0.low (by omega)))
     have crF := rF.lt
     replace rF := k.row rF (by first | exact own_nin ehPxF | exact own_nin (h0.low (by omega)))
     have crL := rL.lt
     replace rL := k.row rL (by first | exact own_nin ehPxL | exact own_nin (h0.low (by omega)))
     have cr5 := r5.lt
     replace r5 := k.row r5 (by first | exact own_nin ehPx5 | exact own_nin (h0.low (by omega)))
     have zt := own_two hL hp zhPxhL
     replace hL := hL.on k (own_nin2 zhPxhL)
     clear zhPxhL zhLxhP
     have zhPxhL := zt
     have zhLxhP := own_sym zt
     clear zt
     have cr14 := r14.lt
     replace r14 := k.row r14 (by first | exact own_nin ehPx14 | exact own_nin (h0.low (by omega)))
     (try replace ehPxG := own_apart hp crG ehPxG)
     clear crG
     (try replace ehPxR := own_apart hp crR ehPxR)
     clear crR
     (try replace ehPxF := own_apart hp crF ehPxF)
     clear crF
     (try replace ehPxL := own_apart hp crL ehPxL)
     clear crL
     (try replace ehPx5 := own_apart hp cr5 ehPx5)
     clear cr5
     (try replace ehPx14 := own_apart hp cr14 ehPx14)
     clear cr14;clear hp
     replace sb := sb.trans (k.below w.heap.size sb.size h0.base)
     clear h0;clear k;refine p_a (pw_nil ?_);simp only [pv];clear r14
     repeat ((fail_if_success with_reducible apply rg); go_step)
     refine rp ?_;refine p_m ?_;simp only [pv];refine p_v (.int .i64 ((i + 1 : Nat) : Int)) (x_a i 1) ?_;refine p_a (pw_nil ?_);simp only [pv]
     go_wp2
     go_roundg yv
     case measure => omega
     case rel => exact ⟨i + 1, m + 1, u2, by omega, rfl, hP, hL, hw2, zhPxhL, ehPxG, ehPxR, ehPxF, ehPxL, ehPx5, ehLxG, ehLxR, ehLxF, ehLxL, ehLx5, ⟨rG, rR, rF⟩, rL, r5, sb⟩
   ·have hor : bt x i = false ∨ e ≤ m := by
     cases hbx : bt x i with
     | false => exact .inl rfl
     | true => exact .inr (Nat.le_of_not_lt fun hh => htk ⟨hbx, hh⟩)
    have hZi := HZ1.out i (by rw [hlm]; exact hor)
    have hw2 : (wlL (fun i => i + 1) (fun k => !decide (ZZ k = YY k)) (i + 1)) = (List.range m).map u := (wl_no (by rw [decide_eq_true hZi]; rfl)).trans HWL.out
    rw [← hZi] at r14
    cases hbx : bt x i with
    | false =>
     rw [hbx] at hbi
     repeat ((fail_if_success with_reducible apply rg); go_step)
     refine rp ?_;refine p_v (.pointer (some ⟨g5, 0, none⟩)) (exec_index 39 _ _ rfl g5 rfl 0 2 rfl (by decide) _ Tryz.underlying39 Tryz.sizeOf3) ?_;simp only [pv];refine p_d 0 r5.r (.int .i64 x) rfl Tryz.isAgg3 ?_;refine p_m ?_;simp only [pv];refine p_v (.int .i64 (x / 2 ^ i)) (exec_shr_z _ _ _ _ rfl x i rfl rfl (by omega)) ?_;simp only [pv];refine p_v (.int .i64 (ly1 (x / 2 ^ i) : Nat)) (fun w' => (exec_bits_i .and _ _ _ _ (.inl rfl) rfl (x / 2 ^ i) 1 rfl rfl w').trans (by rw [and_ly1])) ?_;simp only [pv];refine p_v (.bool false) (exec_eql_k .i64 _ _ _ _ rfl (ly1 (x / 2 ^ i) : Nat) 1 rfl rfl false hbi) ?_;refine p_m ?_;refine p_s ?_;refine p_s ?_;refine p_s ?_;simp only [pv];refine p_s ?_;refine p_s ?_;refine p_s ?_;refine p_s ?_;refine p_k false (.bool false) (pw_nil ?_);simp only [pv]
     repeat ((fail_if_success with_reducible apply rg); go_step)
     refine rp ?_;refine p_m ?_;simp only [pv];refine pw_loadm (by rfl) 54 _ rfl _ 0 rfl r14.r _ (part_all _) _ Tryz.underlying54 rfl size_sh ?_;simp only [pv];refine pw_litr (by rfl) 50 54 1 _ rfl (CC i) ie _ Tryz.underlying50 hie hz hs1 hs2 [(0, .agg (shC ((i + 1 : Nat) : Int) (ZZ i)))] rfl (HLi.out i) ?_;intro gA z17002 n0 rA k;simp only [pv]
     have dGxA := l_l rG.lt n0
     have dRxA := l_l rR.lt n0
     have dFxA := l_l rF.lt n0
     have dLxA := l_l rL.lt n0
     have d5xA := l_l r5.lt n0
     have ehPxA := hP.new n0
     have ehLxA := hL.new n0
     have d14xA := l_l r14.lt n0
     have bA := Nat.le_trans sb.size n0
     clear n0;replace rG := k.ro rG;replace rR := k.ro rR;replace rF := k.ro rF;replace rL := k.ro rL;replace r5 := k.ro r5
     replace hP := hP.on k (own_ne0 _)
     replace hL := hL.on k (own_ne0 _)
     replace r14 := k.ro r14;replace sb := kk sb k;clear k;refine pw_appE (by rfl) _ _ (50) rfl (w.heap.size) 54 ie _ 5 40 Tryz.underlying50 hie hz hsz hby rfl (by decide) (by decide) (_) (i) (CC) (HC5.out) rfl hP gA _ rfl rA (HCo.out _) ((by omega)) sb.size ?_
     have h0 := hP
     clear hP;intro v1 z17003 hP k hp;simp only [pv]
     have crG := rG.lt
     replace rG := k.row rG (by first | exact own_nin ehPxG | exact own_nin (h0.low (by omega)))
     have crR := rR.lt
     replace rR := k.row rR (by first | exact own_nin ehPxR | exact own_nin (h0.low (by omega)))
     have crF := rF.lt
     replace rF := k.row rF (by first | exact own_nin ehPxF | exact own_nin (h0.low (by omega)))
     have crL := rL.lt
     replace rL := k.row rL (by first | exact own_nin ehPxL | exact own_nin (h0.low (by omega)))
     have cr5 := r5.lt
     replace r5 := k.row r5 (by first | exact own_nin ehPx5 | exact own_nin (h0.low (by omega)))
     have zt := own_two hL hp zhPxhL
     replace hL := hL.on k (own_nin2 zhPxhL)
     clear zhPxhL zhLxhP
     have zhPxhL := zt
     have zhLxhP := own_sym zt
     clear zt
     have cr14 := r14.lt
     replace r14 := k.row r14 (by first | exact own_nin ehPx14 | exact own_nin (h0.low (by omega)))
     (try replace ehPxG := own_apart hp crG ehPxG)
     clear crG
     (try replace ehPxR := own_apart hp crR ehPxR)
     clear crR
     (try replace ehPxF := own_apart hp crF ehPxF)
     clear crF
     (try replace ehPxL := own_apart hp crL ehPxL)
     clear crL
     (try replace ehPx5 := own_apart hp cr5 ehPx5)
     clear cr5
     (try replace ehPx14 := own_apart hp cr14 ehPx14)
     clear cr14;clear hp
     replace sb := sb.trans (k.below w.heap.size sb.size h0.base)
     clear h0;clear k;refine p_a (pw_nil ?_);simp only [pv];clear r14
     repeat ((fail_if_success with_reducible apply rg); go_step)
     refine rp ?_;refine p_m ?_;simp only [pv];refine p_v (.int .i64 ((i + 1 : Nat) : Int)) (x_a i 1) ?_;refine p_a (pw_nil ?_);simp only [pv]
     go_wp2
     go_roundg yv
     case measure => omega
     case rel => exact ⟨i + 1, m, u, by omega, rfl, hP, hL, hw2, zhPxhL, ehPxG, ehPxR, ehPxF, ehPxL, ehPx5, ehLxG, ehLxR, ehLxF, ehLxL, ehLx5, ⟨rG, rR, rF⟩, rL, r5, sb⟩
    | true =>
     rw [hbx] at hbi hor
     have hem : e ≤ m := hor.resolve_left (by decide)
     repeat ((fail_if_success with_reducible apply rg); go_step)
     refine rp ?_;refine p_v (.pointer (some ⟨g5, 0, none⟩)) (exec_index 39 _ _ rfl g5 rfl 0 2 rfl (by decide) _ Tryz.underlying39 Tryz.sizeOf3) ?_;simp only [pv];refine p_d 0 r5.r (.int .i64 x) rfl Tryz.isAgg3 ?_;refine p_m ?_;simp only [pv];refine p_v (.int .i64 (x / 2 ^ i)) (exec_shr_z _ _ _ _ rfl x i rfl rfl (by omega)) ?_;simp only [pv];refine p_v (.int .i64 (ly1 (x / 2 ^ i) : Nat)) (fun w' => (exec_bits_i .and _ _ _ _ (.inl rfl) rfl (x / 2 ^ i) 1 rfl rfl w').trans (by rw [and_ly1])) ?_;simp only [pv];refine p_v (.bool true) (exec_eql_k .i64 _ _ _ _ rfl (ly1 (x / 2 ^ i) : Nat) 1 rfl rfl true hbi) ?_;refine p_m ?_;refine p_m ?_;simp only [pv];refine p_v (.int .i64 m) (n_l av m cv sl_intsX) ?_;refine p_m ?_;simp only [pv];refine p_v (.int .i64 n) (n_l ab n c sl_natsX) ?_;simp only [pv];refine p_v (.int .i64 ((n - 1 : Nat) : Int)) ((fun w' => (exec_sub_in _ _ _ _ rfl n 1 rfl rfl (by omega) (by omega) w'))) ?_;simp only [pv];refine p_c 19 Tryz.func19 #[.int .i64 ((n - 1 : Nat) : Int), .int .i64 7] (hle _) ?_;intro z13012 k;simp only [pv];replace rG := k.ro rG;replace rR := k.ro rR;replace rF := k.ro rF;replace rL := k.ro rL;replace r5 := k.ro r5
     replace hP := hP.on k (own_ne0 _)
     replace hL := hL.on k (own_ne0 _)
     replace r14 := k.ro r14;replace sb := kk sb k;clear k;refine p_v (.bool false) (lt_f m e) ?_;refine p_k true (.bool false) (pw_nil ?_);simp only [pv]
     repeat ((fail_if_success with_reducible apply rg); go_step)
     refine rp ?_;refine p_m ?_;simp only [pv];refine pw_loadm (by rfl) 54 _ rfl _ 0 rfl r14.r _ (part_all _) _ Tryz.underlying54 rfl size_sh ?_;simp only [pv];refine pw_litr (by rfl) 50 54 1 _ rfl (CC i) ie _ Tryz.underlying50 hie hz hs1 hs2 [(0, .agg (shC ((i + 1 : Nat) : Int) (ZZ i)))] rfl (HLi.out i) ?_;intro gA z17002 n0 rA k;simp only [pv]
     have dGxA := l_l rG.lt n0
     have dRxA := l_l rR.lt n0
     have dFxA := l_l rF.lt n0
     have dLxA := l_l rL.lt n0
     have d5xA := l_l r5.lt n0
     have ehPxA := hP.new n0
     have ehLxA := hL.new n0
     have d14xA := l_l r14.lt n0
     have bA := Nat.le_trans sb.size n0
     clear n0;replace rG := k.ro rG;replace rR := k.ro rR;replace rF := k.ro rF;replace rL := k.ro rL;replace r5 := k.ro r5
     replace hP := hP.on k (own_ne0 _)
     replace hL := hL.on k (own_ne0 _)
     replace r14 := k.ro r14;replace sb := kk sb k;clear k;refine pw_appE (by rfl) _ _ (50) rfl (w.heap.size) 54 ie _ 5 40 Tryz.underlying50 hie hz hsz hby rfl (by decide) (by decide) (_) (i) (CC) (HC5.out) rfl hP gA _ rfl rA (HCo.out _) ((by omega)) sb.size ?_
     have h0 := hP
     clear hP;intro v1 z17003 hP k hp;simp only [pv]
     have crG := rG.lt
     replace rG := k.row rG (by first | exact own_nin ehPxG | exact own_nin (h0.low (by omega)))
     have crR := rR.lt
     replace rR := k.row rR (by first | exact own_nin ehPxR | exact own_nin (h0.low (by omega)))
     have crF := rF.lt
     replace rF := k.row rF (by first | exact own_nin ehPxF | exact own_nin (h0.low (by omega)))
     have crL := rL.lt
     replace rL := k.row rL (by first | exact own_nin ehPxL | exact own_nin (h0.low (by omega)))
     have cr5 := r5.lt
     replace r5 := k.row r5 (by first | exact own_nin ehPx5 | exact own_nin (h0.low (by omega)))
     have zt := own_two hL hp zhPxhL
     replace hL := hL.on k (own_nin2 zhPxhL)
     clear zhPxhL zhLxhP
     have zhPxhL := zt
     have zhLxhP := own_sym zt
     clear zt
     have cr14 := r14.lt
     replace r14 := k.row r14 (by first | exact own_nin ehPx14 | exact own_nin (h0.low (by omega)))
     (try replace ehPxG := own_apart hp crG ehPxG)
     clear crG
     (try replace ehPxR := own_apart hp crR ehPxR)
     clear crR
     (try replace ehPxF := own_apart hp crF ehPxF)
     clear crF
     (try replace ehPxL := own_apart hp crL ehPxL)
     clear crL
     (try replace ehPx5 := own_apart hp cr5 ehPx5)
     clear cr5
     (try replace ehPx14 := own_apart hp cr14 ehPx14)
     clear cr14;clear hp
     replace sb := sb.trans (k.below w.heap.size sb.size h0.base)
     clear h0;clear k;refine p_a (pw_nil ?_);simp only [pv];clear r14
     repeat ((fail_if_success with_reducible apply rg); go_step)
     refine rp ?_;refine p_m ?_;simp only [pv];refine p_v (.int .i64 ((i + 1 : Nat) : Int)) (x_a i 1) ?_;refine p_a (pw_nil ?_);simp only [pv]
     go_wp2
     go_roundg yv
     case measure => omega
     case rel => exact ⟨i + 1, m, u, by omega, rfl, hP, hL, hw2, zhPxhL, ehPxG, ehPxR, ehPxF, ehPxL, ehPx5, ehLxG, ehLxR, ehLxF, ehLxL, ehLx5, ⟨rG, rR, rF⟩, rL, r5, sb⟩
theorem walk (a0 : Int) (ab : Option Addr) (n c : Nat) (F : Nat → Nat) (gb ob : Nat) (bcs : Array Value) (tb : TypeId) (x y : Int) (w : World) (_ : -9223372036854775808 ≤ a0 ∧ a0 ≤ 9223372036854775807) (hna : NatsAt w ab n F gb ob bcs tb) (_ : x ≤ 9223372036854775807) :
  Calls Tryz.prog 4 #[.int .i64 a0, .slice ab n c, .agg #[.int .i64 x, .int .i64 y]] w fun e w' => e = .returned (.bool true) ∧ Below w.heap.size w w' := by
 by_cases h : n < 1 ∨ 3 < n
 ·exact core0 a0 x y n c ab w h
 obtain ⟨his, hlt, hG, h2, h63, hL⟩ := pk_gr (ly8 a0 % 3)
 have pQ := (grN_primes his).2
 have hQ := hlt (pk (ly8 a0 % 3) 3 3 5 - 2) (by omega)
 have hbig := pk_big (ly8 a0 % 3)
 have q : FdQ (lN (pk (ly8 a0 % 3) leL otL grL) (pk (ly8 a0 % 3) 3 3 5 - 2)) := ⟨⟨by omega, isP_odd pQ (by omega), pQ.1⟩, pQ⟩
 haveI : NeZero (lN (pk (ly8 a0 % 3) leL otL grL) (pk (ly8 a0 % 3) 3 3 5 - 2)) := ⟨by omega⟩
 have hnw := fun w' x r => gnew_yes (pk (ly8 a0 % 3) 3 3 5) (pk (ly8 a0 % 3) 3 3 5) (some ⟨x, 0, none⟩) (pk (ly8 a0 % 3) leG otG grG) (lN (pk (ly8 a0 % 3) leL otL grL)) _ x 0 _ _ w' h63 hG (lks_links (hL ▸ r) hlt) his
 generalize hQQ : lN (pk (ly8 a0 % 3) leL otL grL) (pk (ly8 a0 % 3) 3 3 5 - 2) = QQ at *
 obtain ⟨LL, hLL⟩ : ∃ LL : List (Fin QQ), fl n F = LL := ⟨_, rfl⟩
 have hll : LL.length = n := by rw [← hLL]; exact fl_length _ _
 have hYl : ∀ k, (pev (fi (k + 1)) LL).val < 2 ^ 256 := fun k => Nat.lt_trans (pev (fi (k + 1)) LL).isLt q.m
 have hdd : ∀ i j, i < 7 → j < 7 → i ≠ j → (fi (i + 1) : Fin QQ) ≠ fi (j + 1) := fun i j hi hj hne e => by
  have := fi_inj e (by omega) (by omega)
  omega
 obtain ⟨YY, hYY⟩ : ∃ YY : Nat → Nat, ∀ k, (pev (fi (k + 1)) LL).val = YY k := ⟨_, fun _ => rfl⟩
 obtain ⟨e, he⟩ : ∃ e, (7 - (n - 1) - 1) / 2 = e := ⟨_, rfl⟩
 have hwb : wrB (fun i => i + 1) (zzN YY (nvN y) (bt x) e) LL = fun k => !decide (zzN YY (nvN y) (bt x) e k = YY k) := funext fun k => by
  unfold wrB
  rw [hYY]
 have hzl : ∀ k, zzN YY (nvN y) (bt x) e k < 2 ^ 256 := fun k => by
  unfold zzN
  split
  ·have : nvN y k < 16 := Nat.mod_lt _ (by decide)
   omega
  ·rw [← hYY]; exact hYl k
 refine core1 a0 x y (ly8 a0) (ly8 a0 % 3) (pk (ly8 a0 % 3) leG otG grG) _ QQ 3 3 5 leG otG grG _ _ _ n c e ab YY (zzN YY (nvN y) (bt x) e) (ptrim LL) w (and_ly8 a0) rfl (by omega) (by omega) (fun k => by rw [← hYY]; exact hYl k)
  (fun i hi => ?_) (fun i hb hl => ?_) (fun w' => ?_) (fun g gr gf w' hb hg => ?_) (fun g gr gf w' ap cp gp cur hcp hg hp => ?_) (fun g gr gf w' vf hg hf => ?_) rleast_any rother_any rgreat_any hnw
 ·rw [wc_len] at hi
  unfold zzN
  refine if_neg fun h2 => ?_
  rcases hi with h1 | h1
  ·rw [h1] at h2; exact absurd h2.1 (by decide)
  ·omega
 ·rw [wc_len] at hl
  exact if_pos ⟨hb, hl⟩
 ·have := lies_any (n - 1) 7 w' (by omega) (by decide)
  rw [he] at this
  exact this
 ·have := deal_any (.slice ab n c) LL 7 (by decide) (by decide) q hg (hLL ▸ (hna.below hb).pl (by omega))
  simp only [hYY] at this
  exact this
 ·have := dec_any 7 cp (n - 1) ap (fun i => i + 1) (zzN YY (nvN y) (bt x) e) gp 0 cur _ q (by omega) (by decide) hcp (fun k hk => by show k + 1 < 1000; omega) (fun k _ => hzl k) (fun i j h _ => by show i + 1 < j + 1; omega) hdd (by decide) hp hg LL (by omega) (by rw [hwb, wc_len, he]; exact wc_le _ _ _ _ _)
  rw [hwb] at this
  exact this
 ·have := deal_any vf (ptrim LL) 7 (by decide) (by decide) q hg (hf.arg (by have := ptrim_le LL; omega))
  simp only [pev_ptrim, hYY] at this
  exact this
theorem lifted (os : Os) (started : os.Started) (H : Type) (enc : TypeId × Value → H) :
  ReturnsInHanded {} Tryz.checked os 4 .any (Rows.welchMendsSpec.pre6 enc Tryz.prog Tryz.f4 Rows.welchMendsRow.domain false) (Rows.welchMendsSpec.post enc Tryz.prog Tryz.f4 false true false false) := by
 refine returnsInHanded_of_change (C := Tryz.checked) own started (by kernel_rfl) Tryz.func4
  (ChangeSpec.witness6 (enc := enc) (C := Tryz.checked) false ⟨#[], #[.int .i64 0, .slice none 0 0, .agg #[.int .i64 0, .int .i64 0]], []⟩ 8 (by kernel_rfl) (by kernel_rfl) (by kernel_rfl) (by kernel_rfl)) ?_
 intro W base args ds gs before hval0 hW hcnd _
 have hval : ∀ (j : Nat) t v, Tryz.f4.params[j]? = some t → args[j]? = some v → Value.okWide Tryz.prog W .any base t v := hval0
 have hW' := hW
 obtain ⟨p, q, hA0, hV, rfl, hfz, hnd⟩ := hW
 have hA : DataW.TrodAll enc Tryz.prog W 0 (fun _ => true) true Tryz.f4.params.toList args.toList ds p := hA0
 rw [Tryz.params4] at hA hval
 obtain ⟨v0, vs0, d0, ds0, p0, q0, hargs, rfl, rfl, h0, r0⟩ := trodAll_cons hA
 obtain ⟨v1, vs1, d1, ds1, p1, q1, rfl, rfl, rfl, h1, r1⟩ := trodAll_cons r0
 obtain ⟨v2, vs2, d2, ds2, p2, q2, rfl, rfl, rfl, h2, r2⟩ := trodAll_cons r1
 obtain ⟨rfl, rfl, rfl⟩ := trodAll_nil r2
 obtain rfl : args = #[v0, v1, v2] := by cases args; simp_all
 obtain ⟨rfl, rfl⟩ := trodVars_none hV
 have k0 := h0
 have lt0 := lt_of_trod h0
 obtain ⟨a0, rfl, rfl, rfl, w0⟩ := open_int Tryz.underlying3 (hval 0 3 v0 rfl rfl) h0
 have k1 := h1
 have lt1 := lt_of_trod h1
 obtain ⟨ab1, n1, c1, F1, gb1, ob1, bcs1, tb1, rfl, _, _, hn1⟩ := open_nats (hval 1 23 v1 rfl rfl) h1
 have k2 := h2
 have lt2 := lt_of_trod h2
 obtain ⟨x2, y2, rfl, hx2⟩ := open_i2 (hval 2 39 v2 rfl rfl) h2
 clear hA0 hval0
 refine (walk a0 ab1 n1 c1 F1 gb1 ob1 bcs1 tb1 x2 y2 W (bounds_i64 w0) hn1 hx2).mono fun e W' ⟨he, bel⟩ => ?_
 subst he
 exact ⟨_, rfl, _, _, _, [], _, [], hW', trodAll_mk1 (shut_bool Tryz.underlying4 _), (trodAll_cons_mk (Below.trod laidOut (by kernel_rfl) (of_decide_eq_true (by kernel_rfl)) k0 bel lt0) (trodAll_cons_mk (Below.trod laidOut (by kernel_rfl) (of_decide_eq_true (by kernel_rfl)) k1 bel lt1) (trodAll_cons_mk (Below.trod laidOut (by kernel_rfl) (of_decide_eq_true (by kernel_rfl)) k2 bel lt2) trodAll_mk0))), rfl, bel.frame _, fun h => by cases h⟩
theorem over : Rows.welchMendsRow.holds Tryz.pinned (OpenSpec.ofChange Rows.welchMendsSpec) :=
 OpenClaim.holds_of_wide 4 Tryz.f4 rfl rfl rfl rfl rfl rfl rfl ⟨rfl, rfl, rfl, rfl, rfl⟩ rfl rfl rfl rfl rfl (by kernel_rfl) Tryz.func4 (by kernel_rfl)
  (of_decide_eq_true (by kernel_rfl)) (by unfold Func.isWrapper; first | (rw [if_pos (by decide +kernel)]; kernel_rfl) | (rw [if_neg (by decide +kernel)]; exact ⟨rfl, rfl⟩))
  (fun os started H enc _ => lifted os started H enc)
end welchMendsP
/-- for every number, list of naturals and two numbers: in one of the three groups, of a list of 1 to 3, whichever of the seven shares are others, as long as no more are than may be, and whatever they say: the polynomial comes back, and the wrong ones are told; no condition. -/
theorem welchMends_holds : Rows.WelchMendsSaid := welchMendsP.over
end Go.Proofs.YtdionnhelppliaaGreat
