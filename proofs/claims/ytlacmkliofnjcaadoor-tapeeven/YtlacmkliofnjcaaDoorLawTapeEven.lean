/- TapeEven: for every number and natural: the bytes of a number below a small group's Q lead to it, whatever the bit is that is left out; no condition. -/
import Derived.Test.YtlacmkliofnjcaaDoorTpAwake
import Derived.Test.YtlacmkliofnjcaaDoorTpLaid
namespace Go.Proofs.YtlacmkliofnjcaaDoor
open Go.ChangeShapes Go.WideShapes Go.ChangeAt Go.RowKit
namespace tapeEvenP
set_option linter.unusedVariables false
theorem y_shrI {P : Program} {o : Oper} {ρ : Operand → Value} (t : TypeId) (x y : Operand) (u : TypeId) (ho : o.op = .binOp .shr t x y u) (n s r : Nat) (hx : ρ x = .int .i64 n) (hy : ρ y = .int .u64 s) (hs : s < 64) (hr : n / 2 ^ s = r) (w : World) :
  (execOp ρ o).run P w = .ok (.value (.int .i64 (r : Nat))) w := by
 subst hr
 unfold execOp
 simp only [ho, hx, hy]
 simp [go_sem]
theorem y_shlI {P : Program} {o : Oper} {ρ : Operand → Value} (t : TypeId) (x y : Operand) (u : TypeId) (ho : o.op = .binOp .shl t x y u) (n s : Nat) (r : Int) (hx : ρ x = .int .i64 n) (hy : ρ y = .int .u64 s) (hs : s < 64) (hr : IntKind.i64.wrap ((n : Int) * 2 ^ s) = r) (w : World) :
  (execOp ρ o).run P w = .ok (.value (.int .i64 r)) w := by
 subst hr
 unfold execOp
 simp only [ho, hx, hy]
 simp [go_sem]
theorem y_and8 {P : Program} {o : Oper} {ρ : Operand → Value} (t : TypeId) (x y : Operand) (u : TypeId) (ho : o.op = .binOp .and t x y u) (n r : Nat) (hx : ρ x = .int .i64 n) (hy : ρ y = .int .i64 255) (hr : n % 256 = r) (w : World) :
  (execOp ρ o).run P w = .ok (.value (.int .i64 (r : Nat))) w := by
 have h := exec_bits_i (P := P) (o := o) (ρ := ρ) .and t x y u (.inl rfl) ho n 255 hx hy w
 rw [and_ly8] at h
 rw [h]
 subst hr
 have : ly8 (n : Int) = n % 256 := by unfold ly8; omega
 rw [this]
theorem info_u8x : (Tryd.prog.info? 5).map (fun i => (i.zero, i.size)) = some (some (.int .u8 0), 1) := by kernel_rfl
theorem info_u8' : ∃ i, Tryd.prog.info? 5 = some i ∧ i.zero = some (Value.int .u8 0) ∧ i.size = 1 := by
 cases hi : Tryd.prog.info? 5 with
 | none => have := info_u8x; rw [hi] at this; cases this
 | some i =>
  have h := info_u8x
  rw [hi] at h
  simp only [Option.map_some, Option.some.injEq, Prod.mk.injEq] at h
  exact ⟨i, rfl, h.1, h.2⟩
theorem lit_b4 (a b c d : Int) (k : Nat) (hk : k = 1) : Instr.fill (fun i => some (i * k, k)) ((Array.range (4 * k)).map ((Value.int .u8 0).cells[· % (Value.int .u8 0).cells.size]!)) [(0, .int .u8 a), (1, .int .u8 b), (2, .int .u8 c), (3, .int .u8 d)] = some #[.int .u8 a, .int .u8 b, .int .u8 c, .int .u8 d] := by
 subst hk
 kernel_rfl
/-- The bytes of a number below 2^31, the bit ahead of them. -/
def evL (n t : Nat) : List UInt8 := [UInt8.ofNat (n / 16777216 % 256 + t * 128), UInt8.ofNat (n / 65536 % 256), UInt8.ofNat (n / 256 % 256), UInt8.ofNat (n % 256)]
theorem ev_b0 (n t : Nat) (hn : n < 2147483648) (ht : t < 2) : (UInt8.ofNat (n / 16777216 % 256 + t * 128)).toNat = n / 16777216 % 256 + t * 128 := by
 rw [UInt8.toNat_ofNat']; omega
theorem ev_b (x : Nat) : (UInt8.ofNat (x % 256)).toNat = x % 256 := by
 rw [UInt8.toNat_ofNat']; omega
theorem ev_natB (n t : Nat) (hn : n < 2147483648) (ht : t < 2) : natB (evL n t) % 2147483648 = n := by
 have h0 := ev_b0 n t hn ht
 have h1 := ev_b (n / 65536)
 have h2 := ev_b (n / 256)
 have h3 := ev_b n
 unfold evL natB
 simp only [List.foldl]
 rw [h0, h1, h2, h3]
 omega
theorem ev_drw (q n t : Nat) (hq : q < 2147483648) (hq2 : 1073741824 ≤ q) (hn : n < q) (ht : t < 2) : drw q (evL n t) = some (n, []) := by
 have hb : bitLen q = 31 := bitLen_eq q 30 hq2 hq
 have hy : byN q = 4 := by unfold byN; rw [hb]
 have hl : (evL n t).length = 4 := rfl
 have htr : tryN q ((evL n t).take (byN q)) = n := by
  unfold tryN
  rw [hy, hb, show (evL n t).take 4 = evL n t from rfl]
  exact ev_natB n t (by omega) ht
 unfold drw
 rw [hl, drwR_hit (by rw [hl, hy]; decide) (by rw [htr]; exact hn), htr, hy]
 rfl
theorem ev_cells (n t : Nat) (hn : n < 2147483648) (ht : t < 2) : ∀ j, j < (evL n t).length → (#[.int .u8 ((n / 16777216 % 256 + t * 128 : Nat) : Int), .int .u8 ((n / 65536 % 256 : Nat) : Int), .int .u8 ((n / 256 % 256 : Nat) : Int), .int .u8 ((n % 256 : Nat) : Int)] : Array Value)[0 + j]? = some (.int .u8 (yb (evL n t) j : Nat)) := by
 intro j hj
 have h0 := ev_b0 n t hn ht
 have h1 := ev_b (n / 65536)
 have h2 := ev_b (n / 256)
 have h3 := ev_b n
 have hj4 : j < 4 := hj
 match j, hj4 with
 | 0, _ =>
  show some (Value.int .u8 _) = some (Value.int .u8 ((UInt8.ofNat (n / 16777216 % 256 + t * 128)).toNat : Nat))
  rw [h0]
 | 1, _ =>
  show some (Value.int .u8 _) = some (Value.int .u8 ((UInt8.ofNat (n / 65536 % 256)).toNat : Nat))
  rw [h1]
 | 2, _ =>
  show some (Value.int .u8 _) = some (Value.int .u8 ((UInt8.ofNat (n / 256 % 256)).toNat : Nat))
  rw [h2]
 | 3, _ =>
  show some (Value.int .u8 _) = some (Value.int .u8 ((UInt8.ofNat (n % 256)).toNat : Nat))
  rw [h3]
theorem wr8 (x : Nat) (h : x < 256) : IntKind.u8.wrap (x : Int) = (x : Int) := by rw [IntKind.wrap_u8']; omega
set_option maxRecDepth 100000 in
set_option maxHeartbeats 2000000 in
theorem core (a0 : Int) (A GG PP QQ n : Nat) (LK : Array Value) (w : World) (hn : n < 2147483648)
  (hpk : ∀ w', Calls Tryd.prog 20 #[.int .i64 a0] w' fun e w2 => ∃ g, e = .returned (.agg (paC (some ⟨g, 0, none⟩) 3 3 GG)) ∧ w'.heap.size ≤ g ∧ Row w2 g LK 66 ∧ Below w'.heap.size w' w2)
  (hnw : ∀ w' x, Row w' x LK 66 → Calls Tryd.prog 14 #[.agg (paC (some ⟨x, 0, none⟩) 3 3 GG)] w' fun e w2 => ∃ g gr gf, e = .returned (.tuple #[.pointer (some ⟨g, 0, none⟩), .int .i64 0]) ∧ GrpAt w2 g gr gf PP QQ GG ∧ Below w'.heap.size w' w2)
  (hrq : ∀ w' x, Row w' x LK 66 → Calls Tryd.prog 16 #[.agg (paC (some ⟨x, 0, none⟩) 3 3 GG)] w' fun e w2 => e = .returned (.agg (natC QQ)) ∧ Below w'.heap.size w' w2)
  (hlo : ∀ w', Calls Tryd.prog 21 #[.agg (natC QQ)] w' fun e w2 => e = .returned (.tuple #[.int .i64 (QQ : Nat), .bool true]) ∧ Below w'.heap.size w' w2)
  (hby : ∀ w', Calls Tryd.prog 22 #[.agg (natC A), .int .i64 (QQ : Nat)] w' fun e w2 => e = .returned (.int .i64 (n : Nat)) ∧ Below w'.heap.size w' w2)
  (hin : ∀ w', Calls Tryd.prog 23 #[.int .i64 (n : Nat)] w' fun e w2 => e = .returned (.agg (natC n)) ∧ Below w'.heap.size w' w2)
  (hdr : ∀ t, t < 2 → ∀ w' x g gr gf, GrpAt w' g gr gf PP QQ GG → Row w' x (tpC true (evL n t)) 62 → Calls Tryd.prog 18 #[.pointer (some ⟨x, 0, none⟩), .pointer (some ⟨g, 0, none⟩)] w' fun e w2 => e = .returned (.tuple #[.agg (natC n), .int .i64 0]) ∧ Row w2 x (tpC true []) 62 ∧ Kept [x] w' w2) :
  Calls Tryd.prog 5 #[.int .i64 a0, .agg (natC A)] w fun e w' => e = .returned (.bool true) ∧ Below w.heap.size w w' := by
 have haw := awake10_any
 obtain ⟨ie, hie, hz, hsz⟩ := info_u8'
 have hs1 : ¬ 4 * ie.size > 2 ^ 24 := by rw [hsz]; decide
 have hs2 : ¬ 4 * ie.size = 0 := by rw [hsz]; decide
 go_enter Tryd.func5, Tryd.ntmps5
 (repeat ((fail_if_success with_reducible refine rg ?_); go_step))
 refine wp_region_pw ?_
 refine pw_boxr (by rfl) 35 _ rfl (_) rfl ?_
 intro g3 z0 n0 r3 k
 simp only [Act.put, pu]
 have b3 : w.heap.size ≤ g3 := n0
 clear n0
 have sb := k.below w.heap.size (Nat.le_refl _) (by simp)
 clear k
 refine pw_value (by rfl) (.bool false) (fun _ => rfl) ?_
 simp only [Act.put, pu]
 refine pw_nil ?_
 (repeat ((fail_if_success with_reducible refine rg ?_); go_step))
 refine wp_region_pw ?_
 refine pw_mv (by rfl) rfl rfl ?_
 simp only [Act.put, pu]
 refine pw_callE (by rfl) 20 _ _ rfl Tryd.func20 (by kernel_rfl) #[.int .i64 a0] rfl (hpk _) ?_
 rintro _ z1001 ⟨gL, rfl, nL, rL, hb⟩
 refine ⟨_, rfl, ?_⟩
 simp only [Act.put, pu]
 have d3xL := Nat.lt_of_lt_of_le r3.lt nL
 have bL := Nat.le_trans sb.size nL
 clear nL
 have k := Kept.ofBelow hb
 clear hb
 replace r3 := k.row r3 (by simp <;> omega)
 replace sb := sb.trans (k.below w.heap.size sb.size (by simp <;> omega))
 clear k
 refine pw_new (by rfl) 37 rfl _ zero_pa ?_
 intro g5 z1002 n0 r5 k
 simp only [Act.put, pu]
 have d3x5 := Nat.lt_of_lt_of_le r3.lt n0
 have dLx5 := Nat.lt_of_lt_of_le rL.lt n0
 have b5 := Nat.le_trans sb.size n0
 clear n0
 replace r3 := k.row r3 (by simp <;> omega)
 replace rL := k.row rL (by simp <;> omega)
 replace sb := sb.trans (k.below w.heap.size sb.size (by simp <;> omega))
 clear k
 refine pw_put (by rfl) 37 _ _ rfl _ rfl r5 (paC (some ⟨gL, 0, none⟩) 3 3 GG) rfl (by exact size_pa) (by rfl) (pa_one _ _ _ _) ?_
 clear r5
 intro z1003 r5 k
 simp only [Act.put]
 replace r3 := k.row r3 (by simp <;> omega)
 replace rL := k.row rL (by simp <;> omega)
 replace sb := sb.trans (k.below w.heap.size sb.size (by simp <;> omega))
 clear k
 refine pw_nil ?_
 clear hpk
 (repeat ((fail_if_success with_reducible refine rg ?_); go_step))
 refine wp_region_pw ?_
 refine pw_loadm (by rfl) 37 _ rfl _ 0 rfl r5.r _ (part_all _) _ Tryd.underlying37 rfl size_pa ?_
 simp only [Act.put, pu]
 refine pw_callE (by rfl) 14 _ _ rfl Tryd.func14 (by kernel_rfl) #[.agg (paC (some ⟨gL, 0, none⟩) 3 3 GG)] rfl (hnw _ gL rL) ?_
 rintro _ z2001 ⟨g, gr, gf, rfl, hg, hb⟩
 refine ⟨_, rfl, ?_⟩
 simp only [Act.put, pu]
 have k := Kept.ofBelow hb
 clear hb
 replace r3 := k.row r3 (by simp <;> omega)
 replace r5 := k.row r5 (by simp <;> omega)
 replace rL := k.row rL (by simp <;> omega)
 replace sb := sb.trans (k.below w.heap.size sb.size (by simp <;> omega))
 clear k
 refine pw_mv (by rfl) rfl rfl ?_
 simp only [Act.put, pu]
 refine pw_ext (by rfl) rfl rfl rfl ?_
 simp only [Act.put, pu]
 refine pw_ext (by rfl) rfl rfl rfl ?_
 simp only [Act.put, pu]
 refine pw_as (by rfl) rfl rfl ?_
 simp only [Act.put, pu]
 refine pw_as (by rfl) rfl rfl ?_
 simp only [Act.put, pu]
 refine pw_nil ?_
 clear hnw
 (repeat ((fail_if_success with_reducible refine rg ?_); go_step))
 refine wp_region_pw ?_
 refine pw_loadm (by rfl) 37 _ rfl _ 0 rfl r5.r _ (part_all _) _ Tryd.underlying37 rfl size_pa ?_
 simp only [Act.put, pu]
 refine pw_callB (by rfl) 16 _ _ rfl Tryd.func16 (by kernel_rfl) #[.agg (paC (some ⟨gL, 0, none⟩) 3 3 GG)] rfl _ (hrq _ gL rL) ?_
 intro z3001 k
 simp only [Act.put, pu]
 replace r3 := k.row r3 (by simp <;> omega)
 replace r5 := k.row r5 (by simp <;> omega)
 replace rL := k.row rL (by simp <;> omega)
 replace hg := hg.below k.nil
 replace sb := sb.trans (k.below w.heap.size sb.size (by simp <;> omega))
 clear k
 refine pw_callB (by rfl) 21 _ _ rfl Tryd.func21 (by kernel_rfl) #[.agg (natC QQ)] rfl _ (hlo _) ?_
 intro z3002 k
 simp only [Act.put, pu]
 replace r3 := k.row r3 (by simp <;> omega)
 replace r5 := k.row r5 (by simp <;> omega)
 replace rL := k.row rL (by simp <;> omega)
 replace hg := hg.below k.nil
 replace sb := sb.trans (k.below w.heap.size sb.size (by simp <;> omega))
 clear k
 refine pw_mv (by rfl) rfl rfl ?_
 simp only [Act.put, pu]
 refine pw_ext (by rfl) rfl rfl rfl ?_
 simp only [Act.put, pu]
 refine pw_ext (by rfl) rfl rfl rfl ?_
 simp only [Act.put, pu]
 refine pw_as (by rfl) rfl rfl ?_
 simp only [Act.put, pu]
 refine pw_as (by rfl) rfl rfl ?_
 simp only [Act.put, pu]
 refine pw_nil ?_
 clear hlo hrq rL r5
 (repeat ((fail_if_success with_reducible refine rg ?_); go_step))
 refine wp_region_pw ?_
 refine pw_loadm (by rfl) 35 _ rfl _ 0 rfl r3.r _ (part_all _) _ Tryd.underlying35 rfl size_nat ?_
 simp only [Act.put, pu]
 refine pw_mv (by rfl) rfl rfl ?_
 simp only [Act.put, pu]
 refine pw_callB (by rfl) 22 _ _ rfl Tryd.func22 (by kernel_rfl) #[.agg (natC A), .int .i64 (QQ : Nat)] rfl _ (hby _) ?_
 intro z4002 k
 simp only [Act.put, pu]
 replace r3 := k.row r3 (by simp <;> omega)
 replace hg := hg.below k.nil
 replace sb := sb.trans (k.below w.heap.size sb.size (by simp <;> omega))
 clear k
 refine pw_as (by rfl) rfl rfl ?_
 simp only [Act.put, pu]
 refine pw_nil ?_
 clear hby r3
 (repeat ((fail_if_success with_reducible refine rg ?_); go_step))
 refine wp_region_pw ?_
 refine pw_mv (by rfl) rfl rfl ?_
 simp only [Act.put, pu]
 refine pw_value (by rfl) (.bool false) (exec_neq_k .i64 _ _ _ _ rfl 0 0 rfl rfl false rfl) ?_
 simp only [Act.put, pu]
 refine pw_nil ?_
 (repeat ((fail_if_success with_reducible refine rg ?_); go_step))
 refine wp_region_pw ?_
 refine pw_value (by rfl) (.int .i64 0) (fun _ => rfl) ?_
 simp only [Act.put, pu]
 refine pw_nil ?_
 obtain ⟨rG, rR, rF⟩ := hg
 go_wp2_with fail
 go_loopg [11, 12, 13, 14, 15, 16] 2 (fun gg s11 s12 s13 s14 s15 s16 wr => ∃ top : Nat, top + gg = 2 ∧ s11 = .int .i64 top ∧ GrpAt wr g gr gf PP QQ GG ∧ Below w.heap.size w wr)
 case atStart => exact ⟨0, by omega, rfl, ⟨rG, rR, rF⟩, sb⟩
 case round =>
  clear rG rR rF sb
  obtain ⟨top, hi, rfl, ⟨rG, rR, rF⟩, sb⟩ := hrel
  cases gk with
  | zero =>
   obtain rfl : top = 2 := by omega
   clear hi rG rR rF
   (repeat ((fail_if_success with_reducible refine rg ?_); go_step))
   refine wp_region_pw ?_
   refine pw_mv (by rfl) rfl rfl ?_
   simp only [Act.put, pu]
   refine pw_value (by rfl) (.bool false) (exec_lt_b _ _ _ _ rfl ((2 : Nat) : Int) 2 rfl rfl false rfl) ?_
   simp only [Act.put, pu]
   refine pw_nil ?_
   (repeat ((fail_if_success with_reducible refine rg ?_); go_step))
   refine wp_region_pw ?_
   refine pw_callB (by rfl) 7 _ _ rfl Tryd.func7 (by kernel_rfl) #[] rfl _ (haw _) ?_
   intro z17000 k
   simp only [Act.put, pu]
   replace sb := sb.trans (k.below w.heap.size sb.size (by simp <;> omega))
   clear k
   refine pw_as (by rfl) rfl rfl ?_
   simp only [Act.put, pu]
   refine pw_nil ?_
   go_wp2
   go_ret
   exact ⟨rfl, sb⟩
  | succ gg =>
   clear haw
   have ht : top < 2 := by omega
   have htn := fun w' => tnew_ok (evL n top) w' (by show 4 ≤ 65536; decide)
   have hcs := ev_cells n top hn ht
   have hdr' := hdr top ht
   clear hdr
   (repeat ((fail_if_success with_reducible refine rg ?_); go_step))
   refine wp_region_pw ?_
   refine pw_mv (by rfl) rfl rfl ?_
   simp only [Act.put, pu]
   refine pw_value (by rfl) (.bool true) (exec_lt_b _ _ _ _ rfl (top : Int) 2 rfl rfl true (decide_eq_true (by omega))) ?_
   simp only [Act.put, pu]
   refine pw_nil ?_
   (repeat ((fail_if_success with_reducible refine rg ?_); go_step))
   refine wp_region_pw ?_
   refine pw_mv (by rfl) rfl rfl ?_
   simp only [Act.put, pu]
   refine pw_value (by rfl) (.int .i64 ((n / 16777216 : Nat) : Int)) (y_shrI _ _ _ _ rfl n 24 _ rfl rfl (by decide) rfl) ?_
   simp only [Act.put, pu]
   refine pw_value (by rfl) (.int .i64 ((n / 16777216 % 256 : Nat) : Int)) (y_and8 _ _ _ _ rfl (n / 16777216) _ rfl rfl rfl) ?_
   simp only [Act.put, pu]
   refine pw_mv (by rfl) rfl rfl ?_
   simp only [Act.put, pu]
   refine pw_value (by rfl) (.int .i64 ((top * 128 : Nat) : Int)) (y_shlI _ _ _ _ rfl top 7 _ rfl rfl (by decide) (by rw [IntKind.wrap_i64]; omega)) ?_
   simp only [Act.put, pu]
   refine pw_value (by rfl) (.int .i64 ((n / 16777216 % 256 + top * 128 : Nat) : Int)) (exec_add_in _ _ _ _ rfl (n / 16777216 % 256) (top * 128) rfl rfl (by omega)) ?_
   simp only [Act.put, pu]
   refine pw_value (by rfl) (.int .u8 ((n / 16777216 % 256 + top * 128 : Nat) : Int)) (y_conv _ _ _ rfl .i64 .u8 Tryd.underlying3 Tryd.underlying5 ((n / 16777216 % 256 + top * 128 : Nat) : Int) _ rfl (wr8 _ (by omega))) ?_
   simp only [Act.put, pu]
   refine pw_mv (by rfl) rfl rfl ?_
   simp only [Act.put, pu]
   refine pw_value (by rfl) (.int .i64 ((n / 65536 : Nat) : Int)) (y_shrI _ _ _ _ rfl n 16 _ rfl rfl (by decide) rfl) ?_
   simp only [Act.put, pu]
   refine pw_value (by rfl) (.int .i64 ((n / 65536 % 256 : Nat) : Int)) (y_and8 _ _ _ _ rfl (n / 65536) _ rfl rfl rfl) ?_
   simp only [Act.put, pu]
   refine pw_value (by rfl) (.int .u8 ((n / 65536 % 256 : Nat) : Int)) (y_conv _ _ _ rfl .i64 .u8 Tryd.underlying3 Tryd.underlying5 ((n / 65536 % 256 : Nat) : Int) _ rfl (wr8 _ (Nat.mod_lt _ (by decide)))) ?_
   simp only [Act.put, pu]
   refine pw_mv (by rfl) rfl rfl ?_
   simp only [Act.put, pu]
   refine pw_value (by rfl) (.int .i64 ((n / 256 : Nat) : Int)) (y_shrI _ _ _ _ rfl n 8 _ rfl rfl (by decide) rfl) ?_
   simp only [Act.put, pu]
   refine pw_value (by rfl) (.int .i64 ((n / 256 % 256 : Nat) : Int)) (y_and8 _ _ _ _ rfl (n / 256) _ rfl rfl rfl) ?_
   simp only [Act.put, pu]
   refine pw_value (by rfl) (.int .u8 ((n / 256 % 256 : Nat) : Int)) (y_conv _ _ _ rfl .i64 .u8 Tryd.underlying3 Tryd.underlying5 ((n / 256 % 256 : Nat) : Int) _ rfl (wr8 _ (Nat.mod_lt _ (by decide)))) ?_
   simp only [Act.put, pu]
   refine pw_mv (by rfl) rfl rfl ?_
   simp only [Act.put, pu]
   refine pw_value (by rfl) (.int .i64 ((n % 256 : Nat) : Int)) (y_and8 _ _ _ _ rfl n _ rfl rfl rfl) ?_
   simp only [Act.put, pu]
   refine pw_value (by rfl) (.int .u8 ((n % 256 : Nat) : Int)) (y_conv _ _ _ rfl .i64 .u8 Tryd.underlying3 Tryd.underlying5 ((n % 256 : Nat) : Int) _ rfl (wr8 _ (Nat.mod_lt _ (by decide)))) ?_
   simp only [Act.put, pu]
   refine pw_litr (by rfl) 58 5 4 _ rfl #[.int .u8 ((n / 16777216 % 256 + top * 128 : Nat) : Int), .int .u8 ((n / 65536 % 256 : Nat) : Int), .int .u8 ((n / 256 % 256 : Nat) : Int), .int .u8 ((n % 256 : Nat) : Int)] ie _ Tryd.underlying58 hie hz hs1 hs2 [(0, .int .u8 ((n / 16777216 % 256 + top * 128 : Nat) : Int)), (1, .int .u8 ((n / 65536 % 256 : Nat) : Int)), (2, .int .u8 ((n / 256 % 256 : Nat) : Int)), (3, .int .u8 ((n % 256 : Nat) : Int))] rfl (lit_b4 _ _ _ _ _ hsz) ?_
   intro gB z10018 n0 rB k
   simp only [Act.put, pu]
   have dGxB := Nat.lt_of_lt_of_le rG.lt n0
   have dRxB := Nat.lt_of_lt_of_le rR.lt n0
   have dFxB := Nat.lt_of_lt_of_le rF.lt n0
   have bB := Nat.le_trans sb.size n0
   clear n0
   replace rG := k.row rG (by simp <;> omega)
   replace rR := k.row rR (by simp <;> omega)
   replace rF := k.row rF (by simp <;> omega)
   replace sb := sb.trans (k.below w.heap.size sb.size (by simp <;> omega))
   clear k
   refine pw_as (by rfl) rfl rfl ?_
   simp only [Act.put, pu]
   refine pw_nil ?_
   (repeat ((fail_if_success with_reducible refine rg ?_); go_step))
   refine wp_region_pw ?_
   refine pw_mv (by rfl) rfl rfl ?_
   simp only [Act.put, pu]
   refine pw_run (by rfl) (.string ⟨(evL n top).toArray⟩) _ (y_str _ rfl gB 0 4 4 (evL n top) rfl rfl _ rB.r hcs) ?_
   simp only [Act.put, pu]
   refine pw_callE (by rfl) 8 _ _ rfl Tryd.func8 (by kernel_rfl) #[.string ⟨(evL n top).toArray⟩] rfl (htn _) ?_
   rintro _ z11002 ⟨gT, rfl, nT, rT, hb⟩
   refine ⟨_, rfl, ?_⟩
   simp only [Act.put, pu]
   have dGxT := Nat.lt_of_lt_of_le rG.lt nT
   have dRxT := Nat.lt_of_lt_of_le rR.lt nT
   have dFxT := Nat.lt_of_lt_of_le rF.lt nT
   have dBxT := Nat.lt_of_lt_of_le rB.lt nT
   have bT := Nat.le_trans sb.size nT
   clear nT
   have k := Kept.ofBelow hb
   clear hb
   replace rG := k.row rG (by simp <;> omega)
   replace rR := k.row rR (by simp <;> omega)
   replace rF := k.row rF (by simp <;> omega)
   replace rB := k.row rB (by simp <;> omega)
   replace sb := sb.trans (k.below w.heap.size sb.size (by simp <;> omega))
   clear k
   refine pw_mv (by rfl) rfl rfl ?_
   simp only [Act.put, pu]
   refine pw_ext (by rfl) rfl rfl rfl ?_
   simp only [Act.put, pu]
   refine pw_ext (by rfl) rfl rfl rfl ?_
   simp only [Act.put, pu]
   refine pw_as (by rfl) rfl rfl ?_
   simp only [Act.put, pu]
   refine pw_as (by rfl) rfl rfl ?_
   simp only [Act.put, pu]
   refine pw_nil ?_
   clear htn hcs rB
   generalize evL n top = ev at *
   (repeat ((fail_if_success with_reducible refine rg ?_); go_step))
   refine wp_region_pw ?_
   refine pw_mv (by rfl) rfl rfl ?_
   simp only [Act.put, pu]
   refine pw_value (by rfl) (.bool false) (exec_neq_k .i64 _ _ _ _ rfl 0 0 rfl rfl false rfl) ?_
   simp only [Act.put, pu]
   refine pw_mv (by rfl) rfl rfl ?_
   simp only [Act.put, pu]
   refine pw_mv (by rfl) rfl rfl ?_
   simp only [Act.put, pu]
   refine pw_value (by rfl) (.bool false) (exec_eql_nilp _ _ _ _ rfl (some ⟨gT, 0, none⟩) rfl rfl ptr_tp) ?_
   simp only [Act.put, pu]
   refine pw_pick (by rfl) false (v := .bool false) rfl rfl rfl ?_
   simp only [Act.put, pu]
   refine pw_nil ?_
   (repeat ((fail_if_success with_reducible refine rg ?_); go_step))
   refine wp_region_pw ?_
   refine pw_mv (by rfl) rfl rfl ?_
   simp only [Act.put, pu]
   refine pw_mv (by rfl) rfl rfl ?_
   simp only [Act.put, pu]
   refine pw_callE (by rfl) 18 _ _ rfl Tryd.func18 (by kernel_rfl) #[.pointer (some ⟨gT, 0, none⟩), .pointer (some ⟨g, 0, none⟩)] rfl (hdr' _ gT g gr gf ⟨rG, rR, rF⟩ rT) ?_
   clear rT
   rintro _ z14002 ⟨rfl, rT, k⟩
   refine ⟨_, rfl, ?_⟩
   simp only [Act.put, pu]
   replace rG := k.row rG (by simp <;> omega)
   replace rR := k.row rR (by simp <;> omega)
   replace rF := k.row rF (by simp <;> omega)
   replace sb := sb.trans (k.below w.heap.size sb.size (by simp <;> omega))
   clear k
   refine pw_mv (by rfl) rfl rfl ?_
   simp only [Act.put, pu]
   refine pw_ext (by rfl) rfl rfl rfl ?_
   simp only [Act.put, pu]
   refine pw_ext (by rfl) rfl rfl rfl ?_
   simp only [Act.put, pu]
   refine pw_new (by rfl) 35 rfl _ zero_nat ?_
   intro g15 z14006 n0 r15 k
   simp only [Act.put, pu]
   have dGx15 := Nat.lt_of_lt_of_le rG.lt n0
   have dRx15 := Nat.lt_of_lt_of_le rR.lt n0
   have dFx15 := Nat.lt_of_lt_of_le rF.lt n0
   have dTx15 := Nat.lt_of_lt_of_le rT.lt n0
   have b15 := Nat.le_trans sb.size n0
   clear n0
   replace rG := k.row rG (by simp <;> omega)
   replace rR := k.row rR (by simp <;> omega)
   replace rF := k.row rF (by simp <;> omega)
   replace rT := k.row rT (by simp <;> omega)
   replace sb := sb.trans (k.below w.heap.size sb.size (by simp <;> omega))
   clear k
   refine pw_put (by rfl) 35 _ _ rfl _ rfl r15 (natC n) rfl (by exact size_nat) (by simp only [natC_size]) (natC_one _) ?_
   clear r15
   intro z14007 r15 k
   simp only [Act.put]
   replace rG := k.row rG (by simp <;> omega)
   replace rR := k.row rR (by simp <;> omega)
   replace rF := k.row rF (by simp <;> omega)
   replace rT := k.row rT (by simp <;> omega)
   replace sb := sb.trans (k.below w.heap.size sb.size (by simp <;> omega))
   clear k
   refine pw_as (by rfl) rfl rfl ?_
   simp only [Act.put, pu]
   refine pw_nil ?_
   clear hdr'
   (repeat ((fail_if_success with_reducible refine rg ?_); go_step))
   refine wp_region_qw (by kernel_rfl) (by kernel_rfl) ?_
   refine qw_load (by rfl) 35 _ rfl _ rfl r15 4 _ Tryd.underlying35 size_nat ?_
   simp only [Act.put, pu]
   refine qw_move (by rfl) rfl rfl ?_
   simp only [Act.put, pu]
   refine qw_call (by rfl) 23 _ _ rfl Tryd.func23 (by kernel_rfl) #[.int .i64 (n : Nat)] rfl _ hin ?_
   simp only [Act.put, pu]
   refine qw_value (by rfl) (.bool false) ((fun w' => (exec_neq_nat _ _ _ rfl n n rfl rfl w').trans (by rw [neq_no10]))) ?_
   simp only [Act.put, pu]
   refine qw_move (by rfl) rfl rfl ?_
   simp only [Act.put, pu]
   refine qw_move (by rfl) rfl rfl ?_
   simp only [Act.put, pu]
   refine qw_value (by rfl) (.bool false) ((exec_neq_k .i64 _ _ _ _ rfl 0 0 rfl rfl false rfl)) ?_
   simp only [Act.put, pu]
   refine qw_pick false (v := .bool false) (by rfl) rfl rfl rfl ?_
   simp only [Act.put, pu]
   refine qw_move (by rfl) rfl rfl ?_
   simp only [Act.put, pu]
   refine qw_move (by rfl) rfl rfl ?_
   simp only [Act.put, pu]
   refine qw_callK (by rfl) 10 _ _ rfl Tryd.func10 (by kernel_rfl) #[.pointer (some ⟨gT, 0, none⟩)] rfl _ (fun w' hb => tleft_ok gT [] w' (rT.belowAll hb)) ?_
   simp only [Act.put, pu]
   refine qw_value (by rfl) (.bool false) ((exec_neq_k .i64 _ _ _ _ rfl (([] : List UInt8).length : Nat) 0 rfl rfl false rfl)) ?_
   simp only [Act.put, pu]
   refine qw_pick false (v := .bool false) (by rfl) rfl rfl rfl ?_
   simp only [Act.put, pu]
   refine qw_nil ?_
   intro w7 hqb
   replace rG := rG.belowAll hqb
   replace rR := rR.belowAll hqb
   replace rF := rF.belowAll hqb
   replace sb := below_on sb (Nat.le_refl _) hqb
   clear hqb
   clear rT r15
   (repeat ((fail_if_success with_reducible refine rg ?_); go_step))
   refine wp_region_pw ?_
   refine pw_mv (by rfl) rfl rfl ?_
   simp only [Act.put, pu]
   refine pw_value (by rfl) (.int .i64 ((top + 1 : Nat) : Int)) (exec_add_in _ _ _ _ rfl top 1 rfl rfl (by omega)) ?_
   simp only [Act.put, pu]
   refine pw_as (by rfl) rfl rfl ?_
   simp only [Act.put, pu]
   refine pw_nil ?_
   go_wp2
   go_roundg gg
   case measure => omega
   case rel => exact ⟨top + 1, by omega, rfl, ⟨rG, rR, rF⟩, sb⟩
theorem pk2_q (b : Bool) : 1073741824 ≤ lN (pk2 b otL leL) (3 - 2) ∧ lN (pk2 b otL leL) (3 - 2) < 2147483648 := by cases b <;> decide +kernel
theorem walk (a0 : Int) (A : Nat) (w : World) (hA : A < 2 ^ 256) :
  Calls Tryd.prog 5 #[.int .i64 a0, .agg (natC A)] w fun e w' => e = .returned (.bool true) ∧ Below w.heap.size w w' := by
 obtain ⟨his, hlt, hG, hq62⟩ := pk2_gr (pkB a0)
 obtain ⟨hq1, hq2⟩ := pk2_q (pkB a0)
 have hnw : ∀ w' x, Row w' x (lksC 3 (lN (pk2 (pkB a0) otL leL)) twoA) 66 → _ := fun w' x r => gnew_yes 3 3 (some ⟨x, 0, none⟩) (pk2 (pkB a0) otG leG) _ _ x 0 _ _ w' (by decide) hG (lks_links r hlt) his
 have hrq : ∀ w' x, Row w' x (lksC 3 (lN (pk2 (pkB a0) otL leL)) twoA) 66 → _ := fun w' x r => rQ_any 3 3 (some ⟨x, 0, none⟩) (pk2 (pkB a0) otG leG) _ _ x 0 _ _ w' (by decide) (by decide) (lks_links r hlt)
 have hpk := rpick_any a0
 clear hlt his hG
 generalize lN (pk2 (pkB a0) otL leL) (3 - 1) = PP at *
 generalize lN (pk2 (pkB a0) otL leL) (3 - 2) = QQ at *
 generalize pk2 (pkB a0) otG leG = GG at *
 generalize lksC 3 (lN (pk2 (pkB a0) otL leL)) twoA = LK at *
 have q0 : 0 < QQ := by omega
 have q256 : QQ < 2 ^ 256 := Nat.lt_trans hq2 (by decide)
 have hlo : ∀ w', Calls Tryd.prog 21 #[.agg (natC QQ)] w' fun e w2 => e = .returned (.tuple #[.int .i64 (QQ : Nat), .bool true]) ∧ Below w'.heap.size w' w2 := fun w' => by
  have := rlow_any QQ w' q256
  rw [show lowI QQ = ((QQ : Nat) : Int) from if_pos (by omega), show lowB QQ = true from decide_eq_true (by omega)] at this
  exact this
 have hnQ := Nat.mod_lt A q0
 refine core a0 A GG PP QQ (A % QQ) LK w (by omega) hpk hnw hrq hlo (fun w' => rby_any A QQ w' hA q0 hq62) (fun w' => ?_) (fun t ht w' x g gr gf hg r => ?_)
 ·have := rint_any ((A % QQ : Nat) : Int) w' (by omega)
  rw [Int.toNat_natCast] at this
  exact this
 ·have h := tdraw_ok x _ _ _ _ _ _ (evL (A % QQ) t) w' q0 q256 r hg.kn
  obtain ⟨e1, e2, _, e4, _⟩ := dr_some (ev_drw QQ (A % QQ) t hq2 hq1 hnQ ht)
  rw [e1, e2, e4] at h
  exact h
set_option maxRecDepth 100000 in
theorem lifted (os : Os) (started : os.Started) (H : Type) (enc : TypeId × Value → H) :
  ReturnsInHanded {} Tryd.checked os 5 .any (fun w args => (Rows.tapeEvenSpec.pre enc Tryd.prog Tryd.f5 [] false w args ∧ laidMetH Tryd.prog lk w) ∧ sizedMet enc Tryd.prog Tryd.f5 (OpenSpec.ofChange Rows.tapeEvenSpec) false w args)
   (Rows.tapeEvenSpec.post enc Tryd.prog Tryd.f5 false true false false) := by
 refine returnsInHanded_of_change_and (C := Tryd.checked) (X := fun w _ => laidMetH Tryd.prog lk w) (fun _ _ _ hh h => h.of_heap hh) own started (by kernel_rfl) Tryd.func5
  (ChangeSpec.witness_shaped (enc := enc) (C := Tryd.checked) (os := os) (X := fun w _ => laidMetH Tryd.prog lk w) false (World.laidAll Tryd.prog os lk) #[.int .i64 0, .agg #[.int .u64 0, .int .u64 0, .int .u64 0, .int .u64 0]] 8 (World.laidAll_os _ _ _) (lk_shaped os _) (by kernel_rfl) (by kernel_rfl) (by kernel_rfl) (lk_met os _)) ?_
 intro W base args ds gs before hval0 hW _ _ hL _
 have hval : ∀ (j : Nat) t v, Tryd.f5.params[j]? = some t → args[j]? = some v → Value.okWide Tryd.prog W .any base t v := hval0
 have hW' := hW
 obtain ⟨p, q, hA0, hV, rfl, hfz, hnd⟩ := hW
 have hA : DataW.TrodAll enc Tryd.prog W 0 (fun _ => true) true Tryd.f5.params.toList args.toList ds p := hA0
 rw [Tryd.params5] at hA hval
 obtain ⟨v0, vs0, d0, ds0, p0, q0, hargs, rfl, rfl, h0, r0⟩ := trodAll_cons hA
 obtain ⟨v1, vs1, d1, ds1, p1, q1, rfl, rfl, rfl, h1, r1⟩ := trodAll_cons r0
 obtain ⟨rfl, rfl, rfl⟩ := trodAll_nil r1
 obtain rfl : args = #[v0, v1] := by cases args; simp_all
 obtain ⟨rfl, rfl⟩ := trodVars_none hV
 have k0 := h0
 have lt0 := lt_of_trod h0
 obtain ⟨a0, rfl, rfl, rfl, w0⟩ := open_int Tryd.underlying3 (hval 0 3 v0 rfl rfl) h0
 have k1 := h1
 have lt1 := lt_of_trod h1
 obtain ⟨N1, hN1, rfl⟩ := open_nat (hval 1 35 v1 rfl rfl) h1
 clear hA0 hval0
 refine (walk a0 N1 W hN1).mono fun e W' ⟨he, bel⟩ => ?_
 subst he
 exact ⟨_, rfl, _, _, _, [], _, [], hW', trodAll_mk1 (shut_bool Tryd.underlying4 _), (trodAll_cons_mk (Below.trod laidOut (by kernel_rfl) (of_decide_eq_true (by kernel_rfl)) k0 bel lt0) (trodAll_cons_mk (Below.trod laidOut (by kernel_rfl) (of_decide_eq_true (by kernel_rfl)) k1 bel lt1) trodAll_mk0)), rfl, bel.frame _, fun h => by cases h⟩
theorem over : Rows.tapeEvenRow.holds Tryd.pinned (OpenSpec.ofChange Rows.tapeEvenSpec) :=
 OpenClaim.holds_of_wide 5 Tryd.f5 rfl rfl rfl rfl rfl rfl rfl ⟨rfl, rfl, rfl, rfl, rfl⟩ rfl rfl rfl rfl rfl (by kernel_rfl) Tryd.func5 (by kernel_rfl)
  (of_decide_eq_true (by kernel_rfl)) (by unfold Func.isWrapper; first | (rw [if_pos (by decide +kernel)]; kernel_rfl) | (rw [if_neg (by decide +kernel)]; exact ⟨rfl, rfl⟩))
  (fun os started H enc _ => lifted os started H enc)
theorem card : Claim7.holds Tryd.pinned (.plain (OpenSpec.ofChange Rows.tapeEvenSpec)) Rows.tapeEvenCard :=
 Claim7.holds_tied_plain_at .later [] [.data, .pinned] true (true, "b2f3a635b080a807049dfd8a3bbcd83cfd1f2faf6c6deaae8cd420e9f63e0053") false
  over (fun _ h => by cases h) (by kernel_rfl) (fun _ h => by cases h) tapeEven_row_tie rfl ⟨rfl, rfl⟩ (by kernel_rfl) rfl
  (fun f fn hf hfn => by
   obtain rfl : f = 5 := Option.some.inj ((show Tryd.prog.funcNamed "sacristy/sacristylaw10.TapeEven" = some 5 by kernel_rfl).symm.trans hf) |>.symm
   obtain rfl : fn = Tryd.f5 := (Option.some.inj (Tryd.func5.symm.trans hfn)).symm
   exact ⟨by kernel_rfl, fun j t ht => by
    rw [Tryd.params5] at ht
    have hm : t ∈ [3, 35] := by simpa using Array.mem_of_getElem? ht
    have hall : ([3, 35].all fun u => !Tryd.prog.wantsStandIn u) = true := by kernel_rfl
    exact (show Tryd.prog.wantsStandIn t = false by simpa using List.all_eq_true.1 hall t hm)⟩)
  (by kernel_rfl)
end tapeEvenP
/-- for every number and natural: the bytes of a number below a small group's Q lead to it, whatever the bit is that is left out; no condition. -/
theorem tapeEven_holds : Rows.TapeEvenCardSaid := tapeEvenP.card
end Go.Proofs.YtlacmkliofnjcaaDoor
