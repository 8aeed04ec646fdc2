/- wire.Take of any bytes. -/
import Derived.Test.YtojobffihlmfgaaWRG
import Derived.Test.YtojobffihlmfgaaWRE
namespace Go.Proofs.Ytojobffihlmfgaa
open Go.RowKit
set_option linter.unusedVariables false
set_option linter.unusedSimpArgs false
set_option linter.unusedSectionVars false
theorem rd_no {s : List UInt8} {w : World} (hs : s.length < 4611686018427387904) (h : tz s = none) :
  Calls Try.prog 15 #[.string ⟨s.toArray⟩] w fun e w' => e = .panicked (wrP 4) ∧ Below w.heap.size w w' := by
 refine (read_any s w hs).mono ?_
 rintro e w' ⟨h1 | ⟨d, _, _, _, _, h1, _⟩, hb⟩
 ·exact ⟨h1.2, hb⟩
 ·rw [h] at h1; cases h1
theorem rd_yes {s : List UInt8} {w : World} {d : RD} (hs : s.length < 4611686018427387904) (h : tz s = some d) :
  Calls Try.prog 15 #[.string ⟨s.toArray⟩] w fun e w' => ∃ a1 c1 a2 c2, e = .returned (.agg (msC (d.kd : Nat) (d.op : Nat) d.key (d.sq : Nat) (d.cl : Nat) d.dg a1 (nX d.X) c1 a2 d.ys.length c2)) ∧ InR w.heap.size w'.heap.size w' d a1 a2 ∧ Below w.heap.size w w' := by
 refine (read_any s w hs).mono ?_
 rintro e w' ⟨h1 | ⟨d', a1, c1, a2, c2, h1, h2, h3⟩, hb⟩
 ·rw [h] at h1; cases h1.1
 ·rw [h] at h1
  obtain rfl := Option.some.inj h1
  exact ⟨a1, c1, a2, c2, h2, h3, hb⟩
def TkA (s : List UInt8) (g4 : Nat) (n : Int) (w1 w2 : World) : Prop := (tz s = none ∧ n = 4 ∧ Row w2 g4 (msC 0 0 [] 0 0 [] none 0 0 none 0 0) 29) ∨ (∃ d a1 c1 a2 c2, tz s = some d ∧ n = 0 ∧ Row w2 g4 (msC (d.kd : Nat) (d.op : Nat) d.key (d.sq : Nat) (d.cl : Nat) d.dg a1 (nX d.X) c1 a2 d.ys.length c2) 29 ∧ InR w1.heap.size w2.heap.size w2 d a1 a2)
set_option maxRecDepth 100000 in
set_option maxHeartbeats 2000000 in
theorem tk1_any (s : List UInt8) (g0 g4 : Nat) (w : World) (hs : s.length < 4611686018427387904) (hg : g0 ≠ g4) (r0 : Row w g0 #[.string ⟨s.toArray⟩] 9) (r1 : Row w g4 (msC 0 0 [] 0 0 [] none 0 0 none 0 0) 29) :
  Calls Try.prog 14 #[.pointer (some ⟨g0, 0, none⟩), .pointer (some ⟨g4, 0, none⟩)] w fun e w2 => Kept [g4] w w2 ∧ ((e = .returned (.tuple #[]) ∧ TkA s g4 0 w w2) ∨ ∃ n, e = .panicked (wrP n) ∧ TkA s g4 n w w2) := by
 have sk := Kept.refl [g4] w
 have l1 := r1.lt
 cases h : tz s with
 | none =>
  go_enter Try.func14, Try.ntmps14
  (repeat ((fail_if_success with_reducible refine rg ?_); go_step))
  refine wp_region_pw ?_
  refine pw_loadk (by rfl) 9 _ rfl _ (0) rfl r0.r (.string ⟨s.toArray⟩) rfl Try.isAgg9 ?_
  simp only [Act.put, pu]
  refine pw_callP (by rfl) 15 _ _ rfl Try.func15 (by kernel_rfl) #[.string ⟨s.toArray⟩] rfl (rd_no hs h) ?_
  intro z1 hb
  exact ⟨rfl, sk.trans (Kept.ofBelow hb) (by simp), .inr ⟨4, rfl, .inl ⟨h, rfl, r1.belowAll hb⟩⟩⟩
 | some d =>
  go_enter Try.func14, Try.ntmps14
  (repeat ((fail_if_success with_reducible refine rg ?_); go_step))
  refine wp_region_pw ?_
  refine pw_loadk (by rfl) 9 _ rfl _ (0) rfl r0.r (.string ⟨s.toArray⟩) rfl Try.isAgg9 ?_
  simp only [Act.put, pu]
  refine pw_callE (by rfl) 15 _ _ rfl Try.func15 (by kernel_rfl) #[.string ⟨s.toArray⟩] rfl (rd_yes hs h) ?_
  rintro _ z1 ⟨a1, c1, a2, c2, rfl, hI, hb⟩
  refine ⟨_, rfl, ?_⟩
  simp only [Act.put, pu]
  have k := Kept.ofBelow hb
  clear hb
  replace r0 := k.row r0 (by simp <;> omega)
  replace r1 := k.row r1 (by simp <;> omega)
  replace sk := sk.trans k (by simp <;> omega)
  clear k
  refine pw_put (by rfl) 29 _ _ rfl _ rfl r1 (msC (d.kd : Nat) (d.op : Nat) d.key (d.sq : Nat) (d.cl : Nat) d.dg a1 (nX d.X) c1 a2 d.ys.length c2) rfl (by exact size_ms) (by rfl) (ms_one _ _ _ _ _ _ _ _ _ _ _ _) ?_
  clear r1
  intro zP r1 k
  simp only [Act.put]
  replace hI := (hI.on k (by simp; omega)).less (Nat.le_refl _) k.size
  replace sk := sk.trans k (by simp)
  clear k
  refine pw_nil ?_
  go_wp2
  first | (go_ret; exact ⟨sk, .inl ⟨rfl, .inr ⟨d, a1, c1, a2, c2, h, rfl, r1, hI⟩⟩⟩) | exact ⟨rfl, _, results_none rfl _ _ _, sk, .inl ⟨rfl, .inr ⟨d, a1, c1, a2, c2, h, rfl, r1, hI⟩⟩⟩
theorem cgt_take (s : List UInt8) (g1 g4 : Nat) (w : World) (hs : s.length < 4611686018427387904) (hg : g1 ≠ g4) (r1 : Row w g1 #[.string ⟨s.toArray⟩] 9) (r4 : Row w g4 (msC 0 0 [] 0 0 [] none 0 0 none 0 0) 29) :
  Calls Try.prog 13 #[.func (.func 14) #[] #[.pointer (some ⟨g1, 0, none⟩), .pointer (some ⟨g4, 0, none⟩)]] w fun e w3 => ((tz s = none ∧ e = .returned (.int .i64 4) ∧ Row w3 g4 (msC 0 0 [] 0 0 [] none 0 0 none 0 0) 29) ∨ ∃ d a1 c1 a2 c2, tz s = some d ∧ e = .returned (.int .i64 0) ∧ Row w3 g4 (msC (d.kd : Nat) (d.op : Nat) d.key (d.sq : Nat) (d.cl : Nat) d.dg a1 (nX d.X) c1 a2 d.ys.length c2) 29 ∧ InR w.heap.size w3.heap.size w3 d a1 a2) ∧ Kept [g4] w w3 := by
 have l4 := r4.lt
 refine (caught_any 14 _ Try.func14 (by kernel_rfl) [g4] (TkA s g4) w (by simpa using l4) (fun w1 h1 => tk1_any s g1 g4 w1 hs hg (r1.belowAll h1) (r4.belowAll h1))).mono ?_
 rintro e w3 ⟨n, w1, w2, g, rfl, h1, hg1, hg2, k2, hA, k3⟩
 have kk : Kept [g4] w w3 := ((Kept.ofBelow h1).more (T := [g4]) (by simp)).trans k2 (by simp) |>.trans k3 (by simp; omega)
 rcases hA with ⟨h, rfl, r⟩ | ⟨d, a1, c1, a2, c2, h, rfl, r, hI⟩
 ·exact ⟨.inl ⟨h, rfl, k3.row r (by simp; omega)⟩, kk⟩
 ·exact ⟨.inr ⟨d, a1, c1, a2, c2, h, rfl, k3.row r (by simp; omega), (hI.on k3 (by simp; omega)).less h1.size k3.size⟩, kk⟩
theorem ct_no {s : List UInt8} {g1 g4 : Nat} {w : World} (hs : s.length < 4611686018427387904) (hg : g1 ≠ g4) (r1 : Row w g1 #[.string ⟨s.toArray⟩] 9) (r4 : Row w g4 (msC 0 0 [] 0 0 [] none 0 0 none 0 0) 29) (h : tz s = none) :
  Calls Try.prog 13 #[.func (.func 14) #[] #[.pointer (some ⟨g1, 0, none⟩), .pointer (some ⟨g4, 0, none⟩)]] w fun e w3 => e = .returned (.int .i64 4) ∧ Row w3 g4 (msC 0 0 [] 0 0 [] none 0 0 none 0 0) 29 ∧ Kept [g4] w w3 := by
 refine (cgt_take s g1 g4 w hs hg r1 r4).mono ?_
 rintro e w3 ⟨h1 | ⟨d, _, _, _, _, h1, _⟩, k⟩
 ·exact ⟨h1.2.1, h1.2.2, k⟩
 ·rw [h] at h1; cases h1
theorem ct_yes {s : List UInt8} {g1 g4 : Nat} {w : World} {d : RD} (hs : s.length < 4611686018427387904) (hg : g1 ≠ g4) (r1 : Row w g1 #[.string ⟨s.toArray⟩] 9) (r4 : Row w g4 (msC 0 0 [] 0 0 [] none 0 0 none 0 0) 29) (h : tz s = some d) :
  Calls Try.prog 13 #[.func (.func 14) #[] #[.pointer (some ⟨g1, 0, none⟩), .pointer (some ⟨g4, 0, none⟩)]] w fun e w3 => ∃ a1 c1 a2 c2, e = .returned (.int .i64 0) ∧ Row w3 g4 (msC (d.kd : Nat) (d.op : Nat) d.key (d.sq : Nat) (d.cl : Nat) d.dg a1 (nX d.X) c1 a2 d.ys.length c2) 29 ∧ InR w.heap.size w3.heap.size w3 d a1 a2 ∧ Kept [g4] w w3 := by
 refine (cgt_take s g1 g4 w hs hg r1 r4).mono ?_
 rintro e w3 ⟨h1 | ⟨d', a1, c1, a2, c2, h1, h2, h3, h4⟩, k⟩
 ·rw [h] at h1; cases h1.1
 ·rw [h] at h1
  obtain rfl := Option.some.inj h1
  exact ⟨a1, c1, a2, c2, h2, h3, h4, k⟩
set_option maxRecDepth 100000 in
set_option maxHeartbeats 2000000 in
theorem wtk_no (s : List UInt8) (w : World) (hs : s.length < 4611686018427387904) (h : tz s = none) :
  Calls Try.prog 6 #[.string ⟨s.toArray⟩] w fun e w' => e = .returned (.tuple #[.agg (msC 0 0 [] 0 0 [] none 0 0 none 0 0), .int .i64 4]) ∧ Below w.heap.size w w' := by
 go_enter Try.func6, Try.ntmps6
 (repeat ((fail_if_success with_reducible refine rg ?_); go_step))
 refine wp_region_pw ?_
 refine pw_box1 (by rfl) 9 _ rfl (.string ⟨s.toArray⟩) rfl rfl ?_
 intro g1 z0 n0 r1 k
 simp only [Act.put, pu]
 have b1 : w.heap.size ≤ g1 := n0
 clear n0
 have sb := k.below w.heap.size (Nat.le_refl _) (by simp)
 clear k
 refine pw_new (by rfl) 29 rfl _ zero_ms ?_
 intro g2 z1 n0 r2 k
 simp only [Act.put, pu]
 have d1x2 := Nat.lt_of_lt_of_le r1.lt n0
 have b2 := Nat.le_trans sb.size n0
 clear n0
 replace r1 := k.row r1 (by simp <;> omega)
 replace sb := sb.trans (k.below w.heap.size sb.size (by simp <;> omega))
 clear k
 refine pw_value (by rfl) (.int .i64 0) (fun _ => rfl) ?_
 simp only [Act.put, pu]
 refine pw_nil ?_
 (repeat ((fail_if_success with_reducible refine rg ?_); go_step))
 refine wp_region_pw ?_
 refine pw_new (by rfl) 29 rfl _ zero_ms ?_
 intro g4 z1000 n0 r4 k
 simp only [Act.put, pu]
 have d1x4 := Nat.lt_of_lt_of_le r1.lt n0
 have d2x4 := Nat.lt_of_lt_of_le r2.lt n0
 have b4 := Nat.le_trans sb.size n0
 clear n0
 replace r1 := k.row r1 (by simp <;> omega)
 replace r2 := k.row r2 (by simp <;> omega)
 replace sb := sb.trans (k.below w.heap.size sb.size (by simp <;> omega))
 clear k
 refine pw_nil ?_
 (repeat ((fail_if_success with_reducible refine rg ?_); go_step))
 refine wp_region_pw ?_
 refine pw_value (by rfl) (.func (.func 14) #[] #[.pointer (some ⟨g1, 0, none⟩), .pointer (some ⟨g4, 0, none⟩)]) (x_mkf _ _ rfl _ rfl) ?_
 simp only [Act.put, pu]
 refine pw_callE (by rfl) 13 _ _ rfl Try.func13 (by kernel_rfl) #[.func (.func 14) #[] #[.pointer (some ⟨g1, 0, none⟩), .pointer (some ⟨g4, 0, none⟩)]] rfl (ct_no hs (by omega) r1 r4 h) ?_
 have cr4 := r4.lt
 clear r4
 rintro _ z2001 ⟨rfl, r4, k⟩
 refine ⟨_, rfl, ?_⟩
 simp only [Act.put, pu]
 clear cr4
 replace r1 := k.row r1 (by simp <;> omega)
 replace r2 := k.row r2 (by simp <;> omega)
 replace sb := sb.trans (k.below w.heap.size sb.size (by simp <;> omega))
 clear k
 refine pw_as (by rfl) rfl rfl ?_
 simp only [Act.put, pu]
 refine pw_nil ?_
 (repeat ((fail_if_success with_reducible refine rg ?_); go_step))
 refine wp_region_pw ?_
 refine pw_loadm (by rfl) 29 _ rfl _ (0) rfl r4.r (msC 0 0 [] 0 0 [] none 0 0 none 0 0) (part_all _) _ Try.underlying29 rfl size_ms ?_
 simp only [Act.put, pu]
 refine pw_mv (by rfl) rfl rfl ?_
 simp only [Act.put, pu]
 refine pw_put (by rfl) 29 _ _ rfl _ rfl r2 (msC 0 0 [] 0 0 [] none 0 0 none 0 0) rfl (by exact size_ms) (by rfl) (ms_one _ _ _ _ _ _ _ _ _ _ _ _) ?_
 clear r2
 intro z3002 r2 k
 simp only [Act.put]
 replace r4 := k.row r4 (by simp <;> omega)
 replace sb := sb.trans (k.below w.heap.size sb.size (by simp <;> omega))
 clear k
 refine pw_as (by rfl) rfl rfl ?_
 simp only [Act.put, pu]
 refine pw_nil ?_
 go_wp2
 exact ret_row2d rfl _ rfl r2 _ Try.underlying29 (by exact size_ms) rfl _ rfl ⟨rfl, sb⟩
set_option maxRecDepth 100000 in
set_option maxHeartbeats 2000000 in
theorem wtk_yes (s : List UInt8) (d : RD) (w : World) (hs : s.length < 4611686018427387904) (h : tz s = some d) :
  Calls Try.prog 6 #[.string ⟨s.toArray⟩] w fun e w' => ∃ a1 c1 a2 c2, e = .returned (.tuple #[.agg (msC (d.kd : Nat) (d.op : Nat) d.key (d.sq : Nat) (d.cl : Nat) d.dg a1 (nX d.X) c1 a2 d.ys.length c2), .int .i64 0]) ∧ InR w.heap.size w'.heap.size w' d a1 a2 ∧ Below w.heap.size w w' := by
 go_enter Try.func6, Try.ntmps6
 (repeat ((fail_if_success with_reducible refine rg ?_); go_step))
 refine wp_region_pw ?_
 refine pw_box1 (by rfl) 9 _ rfl (.string ⟨s.toArray⟩) rfl rfl ?_
 intro g1 z0 n0 r1 k
 simp only [Act.put, pu]
 have b1 : w.heap.size ≤ g1 := n0
 clear n0
 have sb := k.below w.heap.size (Nat.le_refl _) (by simp)
 clear k
 refine pw_new (by rfl) 29 rfl _ zero_ms ?_
 intro g2 z1 n0 r2 k
 simp only [Act.put, pu]
 have d1x2 := Nat.lt_of_lt_of_le r1.lt n0
 have b2 := Nat.le_trans sb.size n0
 clear n0
 replace r1 := k.row r1 (by simp <;> omega)
 replace sb := sb.trans (k.below w.heap.size sb.size (by simp <;> omega))
 clear k
 refine pw_value (by rfl) (.int .i64 0) (fun _ => rfl) ?_
 simp only [Act.put, pu]
 refine pw_nil ?_
 (repeat ((fail_if_success with_reducible refine rg ?_); go_step))
 refine wp_region_pw ?_
 refine pw_new (by rfl) 29 rfl _ zero_ms ?_
 intro g4 z1000 n0 r4 k
 simp only [Act.put, pu]
 have d1x4 := Nat.lt_of_lt_of_le r1.lt n0
 have d2x4 := Nat.lt_of_lt_of_le r2.lt n0
 have b4 := Nat.le_trans sb.size n0
 clear n0
 replace r1 := k.row r1 (by simp <;> omega)
 replace r2 := k.row r2 (by simp <;> omega)
 replace sb := sb.trans (k.below w.heap.size sb.size (by simp <;> omega))
 clear k
 refine pw_nil ?_
 (repeat ((fail_if_success with_reducible refine rg ?_); go_step))
 refine wp_region_pw ?_
 refine pw_value (by rfl) (.func (.func 14) #[] #[.pointer (some ⟨g1, 0, none⟩), .pointer (some ⟨g4, 0, none⟩)]) (x_mkf _ _ rfl _ rfl) ?_
 simp only [Act.put, pu]
 have lB := sb.size; have l2 := r2.lt
 refine pw_callE (by rfl) 13 _ _ rfl Try.func13 (by kernel_rfl) #[.func (.func 14) #[] #[.pointer (some ⟨g1, 0, none⟩), .pointer (some ⟨g4, 0, none⟩)]] rfl (ct_yes hs (by omega) r1 r4 h) ?_
 have cr4 := r4.lt
 clear r4
 rintro _ z2001 ⟨a1, c1, a2, c2, rfl, r4, hI, k⟩
 refine ⟨_, rfl, ?_⟩
 simp only [Act.put, pu]
 clear cr4
 replace r1 := k.row r1 (by simp <;> omega)
 replace r2 := k.row r2 (by simp <;> omega)
 replace sb := sb.trans (k.below w.heap.size sb.size (by simp <;> omega))
 clear k
 refine pw_as (by rfl) rfl rfl ?_
 simp only [Act.put, pu]
 refine pw_nil ?_
 (repeat ((fail_if_success with_reducible refine rg ?_); go_step))
 refine wp_region_pw ?_
 refine pw_loadm (by rfl) 29 _ rfl _ (0) rfl r4.r (msC (d.kd : Nat) (d.op : Nat) d.key (d.sq : Nat) (d.cl : Nat) d.dg a1 (nX d.X) c1 a2 d.ys.length c2) (part_all _) _ Try.underlying29 rfl size_ms ?_
 simp only [Act.put, pu]
 refine pw_mv (by rfl) rfl rfl ?_
 simp only [Act.put, pu]
 refine pw_put (by rfl) 29 _ _ rfl _ rfl r2 (msC (d.kd : Nat) (d.op : Nat) d.key (d.sq : Nat) (d.cl : Nat) d.dg a1 (nX d.X) c1 a2 d.ys.length c2) rfl (by exact size_ms) (by rfl) (ms_one _ _ _ _ _ _ _ _ _ _ _ _) ?_
 clear r2
 intro zP r2 k
 simp only [Act.put]
 replace hI := (hI.on k (by simp; omega)).less (Nat.le_refl _) k.size
 replace sb := sb.trans (k.below w.heap.size sb.size (by simp <;> omega))
 clear k
 refine pw_as (by rfl) rfl rfl ?_
 simp only [Act.put, pu]
 refine pw_nil ?_
 go_wp2
 exact ret_row2d rfl _ rfl r2 _ Try.underlying29 (by exact size_ms) rfl _ rfl ⟨a1, c1, a2, c2, rfl, hI.less lB (Nat.le_refl _), sb⟩
end Go.Proofs.Ytojobffihlmfgaa
/- A message that may be: what is taken of its bytes is it. -/
namespace Go.Proofs.Ytojobffihlmfgaa
open Go.RowKit
set_option linter.unusedVariables false
set_option linter.unusedSimpArgs false
set_option linter.unusedSectionVars false
theorem mtA_lt {w : World} {a1 : Option Addr} {n : Nat} {N : Nat → Nat} {M : Nat → Nat → Nat} (h : MtA w a1 n N M) : ∀ i, i < n → ∀ j, j < N i → M i j < 2 ^ 256 := by
 obtain ⟨S, gb, ob, bcs, tb, h1, h2⟩ := h
 intro i hi j hj
 obtain ⟨ab, c, gb', ob', bcs', tb', e, hn⟩ := h2 i hi
 exact hn.lt j hj
theorem ysA_lt {w : World} {a2 : Option Addr} {m : Nat} {Y : Nat → Nat} (h : YsA w a2 m Y) : ∀ i, i < m → Y i < 2 ^ 256 := by
 obtain ⟨gb, ob, bcs, tb, h1⟩ := h
 exact h1.lt
theorem mtA_congr {w : World} {a1 : Option Addr} {n : Nat} {N N' : Nat → Nat} {M M' : Nat → Nat → Nat} (h : MtA w a1 n N M) (hN : ∀ i, i < n → N i = N' i) (hM : ∀ i, i < n → ∀ j, j < N i → M i j = M' i j) : MtA w a1 n N' M' := by
 obtain ⟨S, gb, ob, bcs, tb, h1, h2⟩ := h
 refine ⟨S, gb, ob, bcs, tb, h1, fun i hi => ?_⟩
 rw [← hN i hi]
 exact nrAt_congr (h2 i hi) (hM i hi)
theorem ysA_congr {w : World} {a2 : Option Addr} {m : Nat} {Y Y' : Nat → Nat} (h : YsA w a2 m Y) (he : ∀ i, i < m → Y i = Y' i) : YsA w a2 m Y' := by
 obtain ⟨gb, ob, bcs, tb, h1⟩ := h
 exact ⟨gb, ob, bcs, tb, h1.at'.imp id fun ⟨e1, e2, e3⟩ => ⟨e1, e2, fun i hi j v hv => e3 i hi j v (by rw [he i hi]; exact hv)⟩, fun i hi => by rw [← he i hi]; exact h1.lt i hi⟩
theorem xmB_casw {n : Nat} {N : Nat → Nat} {M : Nat → Nat → Nat} (hlt : ∀ i, i < n → ∀ j, j < N i → M i j < 2 ^ 256) : xmB n N M = [] ∨ ∃ k G, XmV n k G ∧ xmB n N M = xmL n k G ∧ (∀ i, i < n → N i = k) ∧ ∀ i, i < n → ∀ j, j < k → G (i * k + j) = M i j := by
 cases hT : tbB n N
 ·exact .inl (by unfold xmB; rw [if_neg (by rw [hT]; decide)])
 ·obtain ⟨n1, n2, k1, k2, hN⟩ := tbB_is hT
  refine .inr ⟨N 0, fun t => M (t / N 0) (t % N 0), ⟨n1, n2, k1, k2, fun t ht => ?_⟩, by unfold xmB; rw [if_pos hT], hN, fun i hi j hj => ?_⟩
  ·have h1 : t / N 0 < n := Nat.div_lt_of_lt_mul (by rw [Nat.mul_comm]; exact ht)
   exact hlt _ h1 _ (by rw [hN _ h1]; exact Nat.mod_lt _ (by omega))
  ·show M ((i * N 0 + j) / N 0) ((i * N 0 + j) % N 0) = _
   rw [Nat.mul_comm i, Nat.mul_add_div (by omega), Nat.div_eq_of_lt hj, Nat.add_zero, Nat.mul_add_mod, Nat.mod_eq_of_lt hj]
theorem xmL_len {n k : Nat} {G : Nat → Nat} (h : XmV n k G) : (xmL n k G).length ≤ 5777 := by
 have h1 := xmT_length h.lt
 have h2 : n * k ≤ 25 * 7 := Nat.mul_le_mul h.n2 h.k2
 show (xmT G (n * k)).length + 1 + 1 ≤ 5777
 omega
theorem ysL_len {Y : Nat → Nat} : ∀ {m : Nat}, (∀ i, i < m → Y i < 2 ^ 256) → (ysL Y m).length ≤ 33 * m
 | 0, _ => Nat.le_refl _
 | m + 1, h => by
  have h1 := ysL_len (fun i hi => h i (Nat.lt_succ_of_lt hi))
  have h2 := byL_le (h m (Nat.lt_succ_self m))
  show (ysL Y m ++ (nuL (byL (Y m)).length 1 ++ byL (Y m))).length ≤ _
  rw [List.length_append, List.length_append, nuL_length]
  omega
theorem byL_N {A : Nat} (h : A < 2 ^ 256) : takeN ⟨(byL A).toArray⟩ = A := by
 rw [← byL_is]
 exact (take_bytesOf A h).1
/-- What is taken of a message's bytes. -/
structure BkF (d : RD) (kd op : Int) (key : List UInt8) (sq cl : Int) (dg : List UInt8) (n m : Nat) (N : Nat → Nat) (M : Nat → Nat → Nat) (Y : Nat → Nat) : Prop where
 fkd : (d.kd : Int) = kd
 fop : (d.op : Int) = op
 fkey : d.key = key
 fsq : (d.sq : Int) = sq
 fcl : (d.cl : Int) = cl
 fdg : d.dg = dg
 fn : nX d.X = n
 fm : d.ys.length = m
 fN : ∀ i, i < n → N i = NX d.X i
 fM : ∀ i, i < n → ∀ j, j < N i → M i j = MZ d.X i j
 fY : ∀ i, i < m → Y i = Yt d.ys i
theorem bk_facts {kd op : Int} {key : List UInt8} {sq cl : Int} {dg : List UInt8} {n m : Nat} {N : Nat → Nat} {M : Nat → Nat → Nat} {Y : Nat → Nat} (hlt : ∀ i, i < n → ∀ j, j < N i → M i j < 2 ^ 256) (hY : ∀ i, i < m → Y i < 2 ^ 256)
  (hW : wmB kd op key sq cl dg (brB n m) (dlB n m (xmB n N M)) = true) :
  ∃ d s, msL kd.toNat op.toNat key sq.toNat cl.toNat dg (xmB n N M) m Y = s ∧ tz s = some d ∧ s.length ≤ 8192 ∧ 0 < s.length ∧ BkF d kd op key sq cl dg n m N M Y := by
 obtain ⟨⟨f1, f1'⟩, ⟨f2, f2'⟩, ⟨f3, f3'⟩, ⟨f4, f4'⟩, ⟨f5, f5'⟩, f6, f7⟩ := wm_facts hW
 obtain ⟨X, hX⟩ : ∃ X, xmB n N M = X := ⟨_, rfl⟩
 have hc := xmB_casw hlt
 rw [hX] at hc f7 hW
 rw [hX]
 have hXc : (X = [] ∧ n = 0 ∧ m = 0 ∧ nX X = n) ∨ (X ≠ [] ∧ XOk X ∧ m = n ∧ nX X = n ∧ n ≤ 25 ∧ X.length ≤ 5777 ∧ (∀ i, i < n → N i = kX X) ∧ ∀ i, i < n → ∀ j, j < N i → M i j = MZ X i j) := by
  rcases hc with rfl | ⟨k, G, hv, he, h1, h2⟩
  ·rcases f7 with ⟨rfl, rfl⟩ | ⟨_, h⟩
   ·exact .inl ⟨rfl, rfl, rfl, nX_nil⟩
   ·exact absurd rfl h
  ·obtain ⟨a, b, c⟩ := nX_is hv he
   have hn1 := hv.n1
   rcases f7 with ⟨h, _⟩ | ⟨hm, hne⟩
   ·omega
   ·refine .inr ⟨hne, ⟨n, k, G, hv, he⟩, hm, a, hv.n2, by rw [he]; exact xmL_len hv, fun i hi => by rw [h1 i hi, b], fun i hi j hj => ?_⟩
    rw [h1 i hi] at hj
    show M i j = GX X (i * kX X + j)
    rw [b, c _ (ixw_lt hi hj), h2 i hi j hj]
 clear hc f7
 refine ⟨⟨kd.toNat, op.toNat, key, sq.toNat, cl.toNat, dg, X, (List.range m).map fun i => byL (Y i)⟩, _, rfl, ?_, ?_, ?_, ?_⟩
 rotate_left
 ·have hy := ysL_len hY
  unfold msL hdL
  simp only [List.length_append, nuL_length, List.length_nil]
  rcases hXc with ⟨rfl, rfl, rfl, _⟩ | ⟨_, _, rfl, _, h25, hl, _⟩
  ·simp only [List.length_nil]; omega
  ·omega
 ·unfold msL hdL
  simp only [List.length_append, nuL_length, List.length_nil]
  omega
 ·refine ⟨by show ((kd.toNat : Nat) : Int) = kd; omega, by show ((op.toNat : Nat) : Int) = op; omega, rfl, by show ((sq.toNat : Nat) : Int) = sq; omega, by show ((cl.toNat : Nat) : Int) = cl; omega, rfl, ?_, by simp, ?_, ?_, ?_⟩
  ·rcases hXc with ⟨_, _, _, h⟩ | ⟨_, _, _, h, _⟩ <;> exact h
  ·rcases hXc with ⟨_, rfl, _⟩ | ⟨_, _, _, _, _, _, h, _⟩
   ·exact fun i hi => absurd hi (Nat.not_lt_zero i)
   ·exact h
  ·rcases hXc with ⟨_, rfl, _⟩ | ⟨_, _, _, _, _, _, _, h⟩
   ·exact fun i hi => absurd hi (Nat.not_lt_zero i)
   ·exact h
  ·intro i hi
   show Y i = takeN ⟨(((List.range m).map fun i => byL (Y i)).getD i []).toArray⟩
   rw [List.getD_eq_getElem?_getD, List.getElem?_map, List.getElem?_range hi]
   exact (byL_N (hY i hi)).symm
 ·have hl8 : (msL kd.toNat op.toNat key sq.toNat cl.toNat dg X m Y).length ≤ 8192 := by
   have hy := ysL_len hY
   unfold msL hdL
   simp only [List.length_append, nuL_length, List.length_nil]
   rcases hXc with ⟨rfl, rfl, rfl, _⟩ | ⟨_, _, rfl, _, h25, hl, _⟩
   ·simp only [List.length_nil]; omega
   ·omega
  have hnm : nX X = n := by rcases hXc with ⟨_, _, _, h⟩ | ⟨_, _, _, h, _⟩ <;> exact h
  have hok : RDok ⟨kd.toNat, op.toNat, key, sq.toNat, cl.toNat, dg, X, (List.range m).map fun i => byL (Y i)⟩ := by
   refine ⟨by show kd.toNat < 256 ^ 1; omega, by show op.toNat < 256 ^ 4; omega, by show key.length < 256 ^ 1; omega, by show sq.toNat < 256 ^ 6; omega, by show cl.toNat < 256 ^ 1; omega, by show dg.length < 256 ^ 1; omega, ?_, ?_⟩
   ·show X.length < 256 ^ 2
    rcases hXc with ⟨rfl, _⟩ | ⟨_, _, _, _, _, hl, _⟩
    ·decide
    ·omega
   ·rcases hXc with ⟨h, _, rfl, _⟩ | ⟨h, ho, hm, hn, _⟩
    ·exact .inl ⟨h, rfl⟩
    ·refine .inr ⟨h, ho, ?_, ?_⟩
     ·show ((List.range m).map fun i => byL (Y i)).length = bf X 0
      rw [List.length_map, List.length_range, ← (nX_bf ho).1, hn, hm]
     ·intro t ht
      obtain ⟨i, hi, rfl⟩ := List.mem_map.1 ht
      exact okT_byL (hY i (List.mem_range.1 hi))
  refine tz_ok hl8 ?_ ?_
  ·rw [msL_rd]
   exact rz_cat _ [] hok
  ·unfold wmD
   show wmB ((kd.toNat : Nat) : Int) ((op.toNat : Nat) : Int) key ((sq.toNat : Nat) : Int) ((cl.toNat : Nat) : Int) dg (brB (nX X) ((List.range m).map fun i => byL (Y i)).length) (dlB (nX X) ((List.range m).map fun i => byL (Y i)).length X) = true
   rw [List.length_map, List.length_range, hnm, show ((kd.toNat : Nat) : Int) = kd by omega, show ((op.toNat : Nat) : Int) = op by omega, show ((sq.toNat : Nat) : Int) = sq by omega, show ((cl.toNat : Nat) : Int) = cl by omega]
   exact hW
/-- Cut anywhere, or with more behind, it is none. -/
theorem bk_cut {s : List UInt8} {d : RD} (h : tz s = some d) (c : Nat) (hc : c < s.length) : tz (s.take c) = none := by
 obtain ⟨h1, h2, h3⟩ := tz_is h
 cases h4 : tz (s.take c) with
 | none => rfl
 | some d' => exact absurd (tz_is h4).2.1 (rz_cut h2 c hc d')
theorem bk_more {s : List UInt8} {d : RD} (h : tz s = some d) {b : List UInt8} (hb : b ≠ []) : tz (s ++ b) = none := by
 obtain ⟨h1, h2, h3⟩ := tz_is h
 exact tz_more (rz_more h2 b) hb
theorem msame_yes {w : World} {a1 a2 : Option Addr} {n c1 c2 : Nat} {N : Nat → Nat} {M : Nat → Nat → Nat} (hn : n < 4611686018427387904) (hN : ∀ i, i < n → N i < 4611686018427387904) (h1 : MtA w a1 n N M) (h2 : MtA w a2 n N M) :
  Calls Try.prog 25 #[.slice a1 n c1, .slice a2 n c2] w fun e w' => e = .returned (.bool true) ∧ Below w.heap.size w w' := by
 obtain ⟨S1, g1, o1, b1, t1, e1, f1⟩ := h1
 obtain ⟨S2, g2, o2, b2, t2, e2, f2⟩ := h2
 exact rmsame_yes a1 a2 n c1 c2 S1 S2 g1 o1 g2 o2 b1 b2 t1 t2 N M w hn hN e1 e2 f1 f2
theorem ysame_yes {w : World} {a1 a2 : Option Addr} {m c1 c2 : Nat} {Y : Nat → Nat} (hm : m < 9223372036854775808) (h1 : YsA w a1 m Y) (h2 : YsA w a2 m Y) :
  Calls Try.prog 26 #[.slice a1 m c1, .slice a2 m c2] w fun e w' => e = .returned (.bool true) ∧ Below w.heap.size w w' := by
 obtain ⟨g1, o1, b1, t1, e1⟩ := h1
 obtain ⟨g2, o2, b2, t2, e2⟩ := h2
 exact rsame_yes m c1 c2 a1 a2 Y g1 o1 g2 o2 b1 b2 t1 t2 w hm e1 e2
/-- Two that are told of the same bytes are the same. -/
theorem dsame_any (d : RD) (a1 : Option Addr) (c1 : Nat) (a2 : Option Addr) (c2 : Nat) (q1 : Option Addr) (f1 : Nat) (q2 : Option Addr) (f2 : Nat) (w : World) (hm : d.ys.length < 9223372036854775808) (h1 : InM w d a1 a2) (h2 : InM w d q1 q2) :
  Calls Try.prog 9 #[.agg (msC (d.kd : Nat) (d.op : Nat) d.key (d.sq : Nat) (d.cl : Nat) d.dg a1 (nX d.X) c1 a2 d.ys.length c2), .agg (msC (d.kd : Nat) (d.op : Nat) d.key (d.sq : Nat) (d.cl : Nat) d.dg q1 (nX d.X) f1 q2 d.ys.length f2)] w fun e w' => e = .returned (.bool true) ∧ Below w.heap.size w w' :=
 rSame_yes (d.kd : Nat) (d.op : Nat) d.key (d.sq : Nat) (d.cl : Nat) d.dg a1 (nX d.X) c1 a2 d.ys.length c2 q1 f1 q2 f2 w
  (fun w' hb => msame_yes (by have := nX_le d.X; omega) (fun i _ => by have := kX_le d.X; show kX d.X < _; omega) (h1.1.below hb) (h2.1.below hb))
  (fun w' hb => ysame_yes hm (h1.2.below hb) (h2.2.below hb))
end Go.Proofs.Ytojobffihlmfgaa
