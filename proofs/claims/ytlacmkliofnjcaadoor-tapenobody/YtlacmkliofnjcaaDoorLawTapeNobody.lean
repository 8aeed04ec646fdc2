/- TapeNobody: for every two numbers: a tape of more than 2^16 bytes there is not; one that nobody made, and one without a group, answer nothing, and do not fail; no condition. -/
import Derived.Test.YtlacmkliofnjcaaDoorTpAwake
import Derived.Test.YtlacmkliofnjcaaDoorTpLaid
namespace Go.Proofs.YtlacmkliofnjcaaDoor
open Go.ChangeShapes Go.WideShapes Go.ChangeAt Go.RowKit
namespace tapeNobodyP
set_option linter.unusedVariables false
/-- The lowest three bits. -/
def ly3 (x : Int) : Nat := (x % 8).toNat
theorem ly3_lt (x : Int) : ly3 x < 8 := by unfold ly3; omega
theorem and_ly3 (x : Int) : bits .and .i64 x 7 = ((ly3 x : Nat) : Int) := by
 show IntKind.i64.wrap ((BitVec.ofInt 64 x &&& BitVec.ofInt 64 7).toNat : Int) = _
 have h7 : (BitVec.ofInt 64 7).toNat = 2 ^ 3 - 1 := by decide
 rw [BitVec.toNat_and, h7, Nat.and_two_pow_sub_one_eq_mod, BitVec.toNat_ofInt]
 have e : (x % ((2 ^ 64 : Nat) : Int)).toNat % 2 ^ 3 = ly3 x := by
  unfold ly3
  omega
 rw [e]
 exact wrap_i64 _ (by have := ly3_lt x; omega)
theorem info_u8x : (Tryd.prog.info? 5).map (fun i => (i.zero, i.size, i.bytes)) = some (some (.int .u8 0), 1, 1) := by kernel_rfl
theorem info_u8' : ∃ i, Tryd.prog.info? 5 = some i ∧ i.zero = some (Value.int .u8 0) ∧ i.size = 1 ∧ i.bytes = 1 := by
 cases hi : Tryd.prog.info? 5 with
 | none => have := info_u8x; rw [hi] at this; cases this
 | some i =>
  have h := info_u8x
  rw [hi] at h
  simp only [Option.map_some, Option.some.injEq, Prod.mk.injEq] at h
  exact ⟨i, rfl, h.1, h.2.1, h.2.2⟩
theorem made_z (n : Nat) : ∀ j, j < (List.replicate n (0 : UInt8)).length → (madeCells (Value.int .u8 0).cells n)[0 + j]? = some (.int .u8 (yb (List.replicate n 0) j : Nat)) := by
 intro j hj
 rw [List.length_replicate] at hj
 have h1 : yb (List.replicate n 0) j = 0 := by
  unfold yb
  rw [List.getD_eq_getElem?_getD, List.getElem?_replicate, if_pos hj]
  rfl
 rw [h1, Nat.zero_add]
 unfold madeCells
 simp [hj, Value.cells, Nat.mod_one]
theorem sl_tps : Tryd.prog.underlying 63 = some (.slice (Tryd.prog.elem 63)) := by kernel_rfl
theorem info_ptx : (Tryd.prog.info? 24).map (fun i => (i.zero, i.size)) = some (some (.pointer none), 1) := by kernel_rfl
theorem info_pt : ∃ i, Tryd.prog.info? 24 = some i ∧ i.zero = some (Value.pointer none) ∧ i.size = 1 := by
 cases hi : Tryd.prog.info? 24 with
 | none => have := info_ptx; rw [hi] at this; cases this
 | some i =>
  have h := info_ptx
  rw [hi] at h
  simp only [Option.map_some, Option.some.injEq, Prod.mk.injEq] at h
  exact ⟨i, rfl, h.1, h.2⟩
theorem lit_pt (v : Option Addr) (k : Nat) (hk : k = 1) : Instr.fill (fun i => some (i * k, k)) ((Array.range (2 * k)).map ((Value.pointer none).cells[· % (Value.pointer none).cells.size]!)) [(0, .pointer none), (1, .pointer v)] = some #[.pointer none, .pointer v] := by
 subst hk
 kernel_rfl
def vOf (g i : Nat) : Option Addr := if i = 0 then none else some ⟨g, 0, none⟩
theorem v_at (g i : Nat) (h : i < 2) : (#[.pointer none, .pointer (some ⟨g, 0, none⟩)] : Array Value)[0 + i * 1]? = some (.pointer (vOf g i)) := by
 match i, h with
 | 0, _ => rfl
 | 1, _ => rfl
theorem v_no {w : World} {g : Nat} (i : Nat) (h : Row w g (tpC false []) 62) : TpAt w (vOf g i) false [] := by
 unfold vOf
 split
 ·exact .inl ⟨rfl, rfl⟩
 ·exact .inr ⟨g, rfl, h⟩
def abL : List UInt8 := [97, 98, 99, 100, 101, 102, 103, 104]
set_option maxRecDepth 100000 in
set_option maxHeartbeats 2000000 in
theorem core1 (a0 a1 : Int) (z3 M : Nat) (w : World) (hz3 : bits .and .i64 a0 7 = (z3 : Int)) (h8 : z3 < 8) (hM : 65533 + z3 = M) (hbig : 65536 < M) :
  Calls Tryd.prog 6 #[.int .i64 a0, .int .i64 a1] w fun e w' => e = .returned (.bool true) ∧ Below w.heap.size w w' := by
 have haw := awake10_any
 obtain ⟨ie, hie, hz, hsz, hby⟩ := info_u8'
 obtain ⟨ip, hip, hzp, hsz0⟩ := info_pt
 have hp1 : ¬ 2 * ip.size > 2 ^ 24 := by rw [hsz0]; decide
 have hp2 : ¬ 2 * ip.size = 0 := by rw [hsz0]; decide
 have hl := fun v => lit_pt v ip.size hsz0
 have hnw := fun w' g (r : Row w' g (lksC 3 (lN leL) twoA) 66) => gnew_yes 3 3 (some ⟨g, 0, none⟩) leG _ _ g 0 _ _ w' (by decide) (by decide) (lks_links r le_lt) least_is
 rw [le_p, le_q] at hnw
 have hab := fun w' => tnew_ok abL w' (by decide)
 have htn := fun w' => tnew_big (List.replicate M 0) w' (by rw [List.length_replicate]; exact hbig)
 go_enter Tryd.func6, Tryd.ntmps6
 have sb := sbmk w
 (repeat ((fail_if_success with_reducible refine rg ?_); go_step))
 refine wp_region_pw ?_
 refine pw_value (by rfl) (.bool false) (fun _ => rfl) ?_
 simp only [Act.put, pu]
 refine pw_nil ?_
 (repeat ((fail_if_success with_reducible refine rg ?_); go_step))
 refine wp_region_pw ?_
 refine pw_mv (by rfl) rfl rfl ?_
 simp only [Act.put, pu]
 refine pw_value (by rfl) (.int .i64 (z3 : Nat)) (fun w' => (exec_bits_i .and _ _ _ _ (.inl rfl) rfl a0 7 rfl rfl w').trans (by rw [hz3])) ?_
 simp only [Act.put, pu]
 refine pw_value (by rfl) (.int .i64 (M : Nat)) (fun w' => (exec_add_in _ _ _ _ rfl 65533 z3 rfl rfl (by omega) w').trans (by rw [hM])) ?_
 simp only [Act.put, pu]
 refine pw_as (by rfl) rfl rfl ?_
 simp only [Act.put, pu]
 refine pw_nil ?_
 (repeat ((fail_if_success with_reducible refine rg ?_); go_step))
 refine wp_region_pw ?_
 refine pw_mv (by rfl) rfl rfl ?_
 simp only [Act.put, pu]
 refine pw_make (by rfl) 58 5 _ _ rfl ie _ Tryd.underlying58 hie hz M rfl rfl (by rw [hsz]; omega) (by rw [hby]; omega) (by omega) ?_
 intro gB z2001 n0 rB k
 simp only [Act.put, pu]
 have bB := Nat.le_trans sb.size n0
 clear n0
 replace sb := sb.trans (k.below w.heap.size sb.size (by simp <;> omega))
 clear k
 refine pw_run (by rfl) (.string ⟨(List.replicate M 0).toArray⟩) _ (y_str _ rfl gB 0 M M (List.replicate M 0) rfl (List.length_replicate) _ rB.r (by rw [hsz, Nat.mul_one]; exact made_z M)) ?_
 simp only [Act.put, pu]
 refine pw_callB (by rfl) 8 _ _ rfl Tryd.func8 (by kernel_rfl) #[.string ⟨(List.replicate M 0).toArray⟩] rfl _ (htn _) ?_
 intro z2003 k
 simp only [Act.put, pu]
 replace rB := k.row rB (by simp <;> omega)
 replace sb := sb.trans (k.below w.heap.size sb.size (by simp <;> omega))
 clear k
 refine pw_mv (by rfl) rfl rfl ?_
 simp only [Act.put, pu]
 refine pw_ext (by rfl) rfl rfl rfl ?_
 simp only [Act.put, pu]
 refine pw_ext (by rfl) rfl rfl rfl ?_
 simp only [Act.put, pu]
 refine pw_as (by rfl) rfl rfl ?_
 simp only [Act.put, pu]
 refine pw_as (by rfl) rfl rfl ?_
 simp only [Act.put, pu]
 refine pw_nil ?_
 clear htn rB
 (repeat ((fail_if_success with_reducible refine rg ?_); go_step))
 refine wp_region_pw ?_
 refine pw_mv (by rfl) rfl rfl ?_
 simp only [Act.put, pu]
 refine pw_value (by rfl) (.bool false) (exec_eql_k .i64 _ _ _ _ rfl 2 0 rfl rfl false rfl) ?_
 simp only [Act.put, pu]
 refine pw_mv (by rfl) rfl rfl ?_
 simp only [Act.put, pu]
 refine pw_value (by rfl) (.bool false) (exec_leq_i _ _ _ _ rfl (M : Nat) 65536 rfl rfl false (decide_eq_false (by omega))) ?_
 simp only [Act.put, pu]
 refine pw_value (by rfl) (.bool false) (y_neB _ _ _ _ rfl false false rfl rfl Tryd.underlying4 false rfl) ?_
 simp only [Act.put, pu]
 refine pw_mv (by rfl) rfl rfl ?_
 simp only [Act.put, pu]
 refine pw_mv (by rfl) rfl rfl ?_
 simp only [Act.put, pu]
 refine pw_value (by rfl) (.bool true) (exec_neq_k .i64 _ _ _ _ rfl 2 0 rfl rfl true rfl) ?_
 simp only [Act.put, pu]
 refine pw_mv (by rfl) rfl rfl ?_
 simp only [Act.put, pu]
 refine pw_mv (by rfl) rfl rfl ?_
 simp only [Act.put, pu]
 refine pw_value (by rfl) (.bool false) (exec_neq_k .i64 _ _ _ _ rfl 2 2 rfl rfl false rfl) ?_
 simp only [Act.put, pu]
 refine pw_mv (by rfl) rfl rfl ?_
 simp only [Act.put, pu]
 refine pw_mv (by rfl) rfl rfl ?_
 simp only [Act.put, pu]
 refine pw_value (by rfl) (.bool false) (exec_neq_nilp _ _ _ _ rfl none rfl rfl ptr_tp) ?_
 simp only [Act.put, pu]
 refine pw_pick (by rfl) false (v := .bool false) rfl rfl rfl ?_
 simp only [Act.put, pu]
 refine pw_pick (by rfl) true (v := .bool false) rfl rfl rfl ?_
 simp only [Act.put, pu]
 refine pw_pick (by rfl) false (v := .bool false) rfl rfl rfl ?_
 simp only [Act.put, pu]
 refine pw_nil ?_
 (repeat ((fail_if_success with_reducible refine rg ?_); go_step))
 refine wp_region_pw ?_
 refine pw_callE (by rfl) 11 _ _ rfl Tryd.func11 (by kernel_rfl) #[] rfl (rleast_any _) ?_
 rintro _ z5000 ⟨gL, rfl, nL, rL, hb⟩
 refine ⟨_, rfl, ?_⟩
 simp only [Act.put, pu]
 have bL := Nat.le_trans sb.size nL
 clear nL
 have k := Kept.ofBelow hb
 clear hb
 replace sb := sb.trans (k.below w.heap.size sb.size (by simp <;> omega))
 clear k
 refine pw_callE (by rfl) 14 _ _ rfl Tryd.func14 (by kernel_rfl) #[.agg (paC (some ⟨gL, 0, none⟩) 3 3 leG)] rfl (hnw _ gL rL) ?_
 rintro _ z5001 ⟨g, gr, gf, rfl, ⟨rG, rR, rF⟩, hb⟩
 refine ⟨_, rfl, ?_⟩
 simp only [Act.put, pu]
 have k := Kept.ofBelow hb
 clear hb
 replace rL := k.row rL (by simp <;> omega)
 replace sb := sb.trans (k.below w.heap.size sb.size (by simp <;> omega))
 clear k
 refine pw_mv (by rfl) rfl rfl ?_
 simp only [Act.put, pu]
 refine pw_ext (by rfl) rfl rfl rfl ?_
 simp only [Act.put, pu]
 refine pw_ext (by rfl) rfl rfl rfl ?_
 simp only [Act.put, pu]
 refine pw_as (by rfl) rfl rfl ?_
 simp only [Act.put, pu]
 refine pw_as (by rfl) rfl rfl ?_
 simp only [Act.put, pu]
 refine pw_nil ?_
 clear hnw rL
 (repeat ((fail_if_success with_reducible refine rg ?_); go_step))
 refine wp_region_pw ?_
 refine pw_value (by rfl) (.agg (tpC false [])) (exec_build0 _ rfl _ built_tp0) ?_
 simp only [Act.put, pu]
 refine pw_boxr (by rfl) 62 _ rfl (_) rfl ?_
 intro g57 z6001 n0 r57 k
 simp only [Act.put, pu]
 have dGx57 := Nat.lt_of_lt_of_le rG.lt n0
 have dRx57 := Nat.lt_of_lt_of_le rR.lt n0
 have dFx57 := Nat.lt_of_lt_of_le rF.lt n0
 have b57 := Nat.le_trans sb.size n0
 clear n0
 replace rG := k.row rG (by simp <;> omega)
 replace rR := k.row rR (by simp <;> omega)
 replace rF := k.row rF (by simp <;> omega)
 replace sb := sb.trans (k.below w.heap.size sb.size (by simp <;> omega))
 clear k
 refine pw_litr (by rfl) 63 24 2 _ rfl #[.pointer none, .pointer (some ⟨g57, 0, none⟩)] ip _ Tryd.underlying63 hip hzp hp1 hp2 [(0, .pointer none), (1, .pointer (some ⟨g57, 0, none⟩))] rfl (hl _) ?_
 intro gP z6002 n0 rP k
 simp only [Act.put, pu]
 have dGxP := Nat.lt_of_lt_of_le rG.lt n0
 have dRxP := Nat.lt_of_lt_of_le rR.lt n0
 have dFxP := Nat.lt_of_lt_of_le rF.lt n0
 have d57xP := Nat.lt_of_lt_of_le r57.lt n0
 have bP := Nat.le_trans sb.size n0
 clear n0
 replace rG := k.row rG (by simp <;> omega)
 replace rR := k.row rR (by simp <;> omega)
 replace rF := k.row rF (by simp <;> omega)
 replace r57 := k.row r57 (by simp <;> omega)
 replace sb := sb.trans (k.below w.heap.size sb.size (by simp <;> omega))
 clear k
 refine pw_as (by rfl) rfl rfl ?_
 simp only [Act.put, pu]
 refine pw_nil ?_
 clear hl hp1 hp2 hzp hip hsz0
 (repeat ((fail_if_success with_reducible refine rg ?_); go_step))
 refine wp_region_pw ?_
 refine pw_value (by rfl) (.int .i64 0) (fun _ => rfl) ?_
 simp only [Act.put, pu]
 refine pw_nil ?_
 go_wp2_with fail
 go_loopg [11, 12, 13, 14, 15, 16, 17] 2 (fun gg s11 s12 s13 s14 s15 s16 s17 wr => ∃ i : Nat, i + gg = 2 ∧ s11 = .int .i64 i ∧ GrpAt wr g gr gf 1055500680322183127 1966023127 leG ∧ Row wr g57 (tpC false []) 62 ∧ Row wr gP #[.pointer none, .pointer (some ⟨g57, 0, none⟩)] 24 ∧ Below w.heap.size w wr)
 case atStart => exact ⟨0, by omega, rfl, ⟨rG, rR, rF⟩, r57, rP, sb⟩
 case round =>
  clear rG rR rF r57 rP sb
  obtain ⟨i, hi, rfl, ⟨rG, rR, rF⟩, r57, rP, sb⟩ := hrel
  cases gk with
  | zero =>
   obtain rfl : i = 2 := by omega
   clear hi r57 rP
   (repeat ((fail_if_success with_reducible refine rg ?_); go_step))
   refine wp_region_pw ?_
   refine pw_mv (by rfl) rfl rfl ?_
   simp only [Act.put, pu]
   refine pw_mv (by rfl) rfl rfl ?_
   simp only [Act.put, pu]
   refine pw_value (by rfl) (.int .i64 2) (exec_len_s 63 _ rfl (some ⟨gP, 0, none⟩) 2 2 rfl sl_tps) ?_
   simp only [Act.put, pu]
   refine pw_value (by rfl) (.bool false) (exec_lt_b _ _ _ _ rfl ((2 : Nat) : Int) 2 rfl rfl false rfl) ?_
   simp only [Act.put, pu]
   refine pw_nil ?_
   (repeat ((fail_if_success with_reducible refine rg ?_); go_step))
   refine wp_region_pw ?_
   refine pw_callE (by rfl) 8 _ _ rfl Tryd.func8 (by kernel_rfl) #[.string ⟨(abL).toArray⟩] rfl (hab _) ?_
   rintro _ z15000 ⟨gT, rfl, nT, rT, hb⟩
   refine ⟨_, rfl, ?_⟩
   simp only [Act.put, pu]
   have dGxT := Nat.lt_of_lt_of_le rG.lt nT
   have dRxT := Nat.lt_of_lt_of_le rR.lt nT
   have dFxT := Nat.lt_of_lt_of_le rF.lt nT
   have bT := Nat.le_trans sb.size nT
   clear nT
   have k := Kept.ofBelow hb
   clear hb
   replace rG := k.row rG (by simp <;> omega)
   replace rR := k.row rR (by simp <;> omega)
   replace rF := k.row rF (by simp <;> omega)
   replace sb := sb.trans (k.below w.heap.size sb.size (by simp <;> omega))
   clear k
   refine pw_mv (by rfl) rfl rfl ?_
   simp only [Act.put, pu]
   refine pw_ext (by rfl) rfl rfl rfl ?_
   simp only [Act.put, pu]
   refine pw_ext (by rfl) rfl rfl rfl ?_
   simp only [Act.put, pu]
   refine pw_as (by rfl) rfl rfl ?_
   simp only [Act.put, pu]
   refine pw_as (by rfl) rfl rfl ?_
   simp only [Act.put, pu]
   refine pw_nil ?_
   clear hab
   (repeat ((fail_if_success with_reducible refine rg ?_); go_step))
   refine wp_region_pw ?_
   refine pw_mv (by rfl) rfl rfl ?_
   simp only [Act.put, pu]
   refine pw_callB (by rfl) 18 _ _ rfl Tryd.func18 (by kernel_rfl) #[.pointer (some ⟨gT, 0, none⟩), .pointer none] rfl _ (tdraw_nog gT none abL _ rT (.inl ⟨rfl, rfl, rfl, rfl, rfl, rfl⟩)) ?_
   intro z16001 k
   simp only [Act.put, pu]
   replace rG := k.row rG (by simp <;> omega)
   replace rR := k.row rR (by simp <;> omega)
   replace rF := k.row rF (by simp <;> omega)
   replace rT := k.row rT (by simp <;> omega)
   replace sb := sb.trans (k.below w.heap.size sb.size (by simp <;> omega))
   clear k
   refine pw_mv (by rfl) rfl rfl ?_
   simp only [Act.put, pu]
   refine pw_ext (by rfl) rfl rfl rfl ?_
   simp only [Act.put, pu]
   refine pw_ext (by rfl) rfl rfl rfl ?_
   simp only [Act.put, pu]
   refine pw_new (by rfl) 35 rfl _ zero_nat ?_
   intro g20 z16005 n0 r20 k
   simp only [Act.put, pu]
   have dGx20 := Nat.lt_of_lt_of_le rG.lt n0
   have dRx20 := Nat.lt_of_lt_of_le rR.lt n0
   have dFx20 := Nat.lt_of_lt_of_le rF.lt n0
   have dTx20 := Nat.lt_of_lt_of_le rT.lt n0
   have b20 := Nat.le_trans sb.size n0
   clear n0
   replace rG := k.row rG (by simp <;> omega)
   replace rR := k.row rR (by simp <;> omega)
   replace rF := k.row rF (by simp <;> omega)
   replace rT := k.row rT (by simp <;> omega)
   replace sb := sb.trans (k.below w.heap.size sb.size (by simp <;> omega))
   clear k
   refine pw_put (by rfl) 35 _ _ rfl _ rfl r20 (natC 0) rfl (by exact size_nat) (by simp only [natC_size]) (natC_one _) ?_
   clear r20
   intro z16006 r20 k
   simp only [Act.put]
   replace rG := k.row rG (by simp <;> omega)
   replace rR := k.row rR (by simp <;> omega)
   replace rF := k.row rF (by simp <;> omega)
   replace rT := k.row rT (by simp <;> omega)
   replace sb := sb.trans (k.below w.heap.size sb.size (by simp <;> omega))
   clear k
   refine pw_as (by rfl) rfl rfl ?_
   simp only [Act.put, pu]
   refine pw_nil ?_
   (repeat ((fail_if_success with_reducible refine rg ?_); go_step))
   refine wp_region_pw ?_
   refine pw_mv (by rfl) rfl rfl ?_
   simp only [Act.put, pu]
   refine pw_mv (by rfl) rfl rfl ?_
   simp only [Act.put, pu]
   refine pw_callB (by rfl) 17 _ _ rfl Tryd.func17 (by kernel_rfl) #[.pointer (some ⟨gT, 0, none⟩), .pointer (some ⟨g, 0, none⟩), .int .i64 (-1)] rfl _ (tdraws_neg gT _ _ _ _ _ _ (-1) abL _ (by decide) (by decide) (by decide) rT (GrpAt.kn ⟨rG, rR, rF⟩)) ?_
   intro z17002 k
   simp only [Act.put, pu]
   replace rG := k.row rG (by simp <;> omega)
   replace rR := k.row rR (by simp <;> omega)
   replace rF := k.row rF (by simp <;> omega)
   replace rT := k.row rT (by simp <;> omega)
   replace sb := sb.trans (k.below w.heap.size sb.size (by simp <;> omega))
   clear k
   refine pw_mv (by rfl) rfl rfl ?_
   simp only [Act.put, pu]
   refine pw_ext (by rfl) rfl rfl rfl ?_
   simp only [Act.put, pu]
   refine pw_ext (by rfl) rfl rfl rfl ?_
   simp only [Act.put, pu]
   refine pw_as (by rfl) rfl rfl ?_
   simp only [Act.put, pu]
   refine pw_as (by rfl) rfl rfl ?_
   simp only [Act.put, pu]
   refine pw_nil ?_
   (repeat ((fail_if_success with_reducible refine rg ?_); go_step))
   refine wp_region_pw ?_
   refine pw_mv (by rfl) rfl rfl ?_
   simp only [Act.put, pu]
   refine pw_value (by rfl) (.bool true) (exec_eql_k .i64 _ _ _ _ rfl 0 0 rfl rfl true rfl) ?_
   simp only [Act.put, pu]
   refine pw_mv (by rfl) rfl rfl ?_
   simp only [Act.put, pu]
   refine pw_mv (by rfl) rfl rfl ?_
   simp only [Act.put, pu]
   refine pw_value (by rfl) (.bool true) (exec_eql_k .i64 _ _ _ _ rfl 1 1 rfl rfl true rfl) ?_
   simp only [Act.put, pu]
   refine pw_pick (by rfl) true (v := .bool true) rfl rfl rfl ?_
   simp only [Act.put, pu]
   refine pw_mv (by rfl) rfl rfl ?_
   simp only [Act.put, pu]
   refine pw_mv (by rfl) rfl rfl ?_
   simp only [Act.put, pu]
   refine pw_value (by rfl) (.bool true) (exec_eql_k .i64 _ _ _ _ rfl 1 1 rfl rfl true rfl) ?_
   simp only [Act.put, pu]
   refine pw_pick (by rfl) true (v := .bool true) rfl rfl rfl ?_
   simp only [Act.put, pu]
   refine pw_mv (by rfl) rfl rfl ?_
   simp only [Act.put, pu]
   refine pw_mv (by rfl) rfl rfl ?_
   simp only [Act.put, pu]
   refine pw_callB (by rfl) 10 _ _ rfl Tryd.func10 (by kernel_rfl) #[.pointer (some ⟨gT, 0, none⟩)] rfl _ (tleft_ok gT abL _ rT) ?_
   intro z18012 k
   simp only [Act.put, pu]
   replace rT := k.row rT (by simp <;> omega)
   replace sb := sb.trans (k.below w.heap.size sb.size (by simp <;> omega))
   clear k
   refine pw_value (by rfl) (.bool true) (exec_eql_k .i64 _ _ _ _ rfl (abL.length : Nat) 8 rfl rfl true rfl) ?_
   simp only [Act.put, pu]
   refine pw_pick (by rfl) true (v := .bool true) rfl rfl rfl ?_
   simp only [Act.put, pu]
   refine pw_mv (by rfl) rfl rfl ?_
   simp only [Act.put, pu]
   refine pw_callB (by rfl) 7 _ _ rfl Tryd.func7 (by kernel_rfl) #[] rfl _ (haw _) ?_
   intro z18016 k
   simp only [Act.put, pu]
   replace rT := k.row rT (by simp <;> omega)
   replace sb := sb.trans (k.below w.heap.size sb.size (by simp <;> omega))
   clear k
   refine pw_pick (by rfl) true (v := .bool true) rfl rfl rfl ?_
   simp only [Act.put, pu]
   refine pw_as (by rfl) rfl rfl ?_
   simp only [Act.put, pu]
   refine pw_nil ?_
   go_wp2
   go_ret
   exact ⟨rfl, sb⟩
  | succ gg =>
   clear haw hab
   have hlt : i < 2 := by omega
   have hv := v_at g57 i hlt
   have hkv : ∀ w', Row w' g57 (tpC false []) 62 → TpAt w' (vOf g57 i) false [] := fun w' h => v_no i h
   generalize vOf g57 i = v at *
   (repeat ((fail_if_success with_reducible refine rg ?_); go_step))
   refine wp_region_pw ?_
   refine pw_mv (by rfl) rfl rfl ?_
   simp only [Act.put, pu]
   refine pw_mv (by rfl) rfl rfl ?_
   simp only [Act.put, pu]
   refine pw_value (by rfl) (.int .i64 2) (exec_len_s 63 _ rfl (some ⟨gP, 0, none⟩) 2 2 rfl sl_tps) ?_
   simp only [Act.put, pu]
   refine pw_value (by rfl) (.bool true) (exec_lt_b _ _ _ _ rfl i 2 rfl rfl true (decide_eq_true (by omega))) ?_
   simp only [Act.put, pu]
   refine pw_nil ?_
   (repeat ((fail_if_success with_reducible refine rg ?_); go_step))
   refine wp_region_pw ?_
   refine pw_mv (by rfl) rfl rfl ?_
   simp only [Act.put, pu]
   refine pw_mv (by rfl) rfl rfl ?_
   simp only [Act.put, pu]
   refine pw_value (by rfl) (.pointer (some ⟨gP, 0 + i * 1, none⟩)) (exec_index_s 63 _ _ rfl gP 0 2 2 rfl i rfl hlt _ Tryd.underlying63 1 Tryd.sizeOf24) ?_
   simp only [Act.put, pu]
   refine pw_loadk (by rfl) 24 _ rfl _ (0 + i * 1) rfl rP.r (.pointer v) hv Tryd.isAgg24 ?_
   simp only [Act.put, pu]
   refine pw_mv (by rfl) rfl rfl ?_
   simp only [Act.put, pu]
   refine pw_callB (by rfl) 9 _ _ rfl Tryd.func9 (by kernel_rfl) #[.pointer v, .int .i64 a1] rfl _ (tbytes_no v [] a1 _ (hkv _ r57)) ?_
   intro z10005 k
   simp only [Act.put, pu]
   replace rG := k.row rG (by simp <;> omega)
   replace rR := k.row rR (by simp <;> omega)
   replace rF := k.row rF (by simp <;> omega)
   replace r57 := k.row r57 (by simp <;> omega)
   replace rP := k.row rP (by simp <;> omega)
   replace sb := sb.trans (k.below w.heap.size sb.size (by simp <;> omega))
   clear k
   refine pw_mv (by rfl) rfl rfl ?_
   simp only [Act.put, pu]
   refine pw_ext (by rfl) rfl rfl rfl ?_
   simp only [Act.put, pu]
   refine pw_ext (by rfl) rfl rfl rfl ?_
   simp only [Act.put, pu]
   refine pw_as (by rfl) rfl rfl ?_
   simp only [Act.put, pu]
   refine pw_as (by rfl) rfl rfl ?_
   simp only [Act.put, pu]
   refine pw_nil ?_
   (repeat ((fail_if_success with_reducible refine rg ?_); go_step))
   refine wp_region_pw ?_
   refine pw_mv (by rfl) rfl rfl ?_
   simp only [Act.put, pu]
   refine pw_mv (by rfl) rfl rfl ?_
   simp only [Act.put, pu]
   refine pw_value (by rfl) (.pointer (some ⟨gP, 0 + i * 1, none⟩)) (exec_index_s 63 _ _ rfl gP 0 2 2 rfl i rfl hlt _ Tryd.underlying63 1 Tryd.sizeOf24) ?_
   simp only [Act.put, pu]
   refine pw_loadk (by rfl) 24 _ rfl _ (0 + i * 1) rfl rP.r (.pointer v) hv Tryd.isAgg24 ?_
   simp only [Act.put, pu]
   refine pw_mv (by rfl) rfl rfl ?_
   simp only [Act.put, pu]
   refine pw_callB (by rfl) 18 _ _ rfl Tryd.func18 (by kernel_rfl) #[.pointer v, .pointer (some ⟨g, 0, none⟩)] rfl _ (tdraw_no _ v [] _ (hkv _ r57)) ?_
   intro z11005 k
   simp only [Act.put, pu]
   replace rG := k.row rG (by simp <;> omega)
   replace rR := k.row rR (by simp <;> omega)
   replace rF := k.row rF (by simp <;> omega)
   replace r57 := k.row r57 (by simp <;> omega)
   replace rP := k.row rP (by simp <;> omega)
   replace sb := sb.trans (k.below w.heap.size sb.size (by simp <;> omega))
   clear k
   refine pw_mv (by rfl) rfl rfl ?_
   simp only [Act.put, pu]
   refine pw_ext (by rfl) rfl rfl rfl ?_
   simp only [Act.put, pu]
   refine pw_ext (by rfl) rfl rfl rfl ?_
   simp only [Act.put, pu]
   refine pw_new (by rfl) 35 rfl _ zero_nat ?_
   intro g14 z11009 n0 r14 k
   simp only [Act.put, pu]
   have dGx14 := Nat.lt_of_lt_of_le rG.lt n0
   have dRx14 := Nat.lt_of_lt_of_le rR.lt n0
   have dFx14 := Nat.lt_of_lt_of_le rF.lt n0
   have d57x14 := Nat.lt_of_lt_of_le r57.lt n0
   have dPx14 := Nat.lt_of_lt_of_le rP.lt n0
   have b14 := Nat.le_trans sb.size n0
   clear n0
   replace rG := k.row rG (by simp <;> omega)
   replace rR := k.row rR (by simp <;> omega)
   replace rF := k.row rF (by simp <;> omega)
   replace r57 := k.row r57 (by simp <;> omega)
   replace rP := k.row rP (by simp <;> omega)
   replace sb := sb.trans (k.below w.heap.size sb.size (by simp <;> omega))
   clear k
   refine pw_put (by rfl) 35 _ _ rfl _ rfl r14 (natC 0) rfl (by exact size_nat) (by simp only [natC_size]) (natC_one _) ?_
   clear r14
   intro z11010 r14 k
   simp only [Act.put]
   replace rG := k.row rG (by simp <;> omega)
   replace rR := k.row rR (by simp <;> omega)
   replace rF := k.row rF (by simp <;> omega)
   replace r57 := k.row r57 (by simp <;> omega)
   replace rP := k.row rP (by simp <;> omega)
   replace sb := sb.trans (k.below w.heap.size sb.size (by simp <;> omega))
   clear k
   refine pw_as (by rfl) rfl rfl ?_
   simp only [Act.put, pu]
   refine pw_nil ?_
   (repeat ((fail_if_success with_reducible refine rg ?_); go_step))
   refine wp_region_pw ?_
   refine pw_mv (by rfl) rfl rfl ?_
   simp only [Act.put, pu]
   refine pw_mv (by rfl) rfl rfl ?_
   simp only [Act.put, pu]
   refine pw_value (by rfl) (.pointer (some ⟨gP, 0 + i * 1, none⟩)) (exec_index_s 63 _ _ rfl gP 0 2 2 rfl i rfl hlt _ Tryd.underlying63 1 Tryd.sizeOf24) ?_
   simp only [Act.put, pu]
   refine pw_loadk (by rfl) 24 _ rfl _ (0 + i * 1) rfl rP.r (.pointer v) hv Tryd.isAgg24 ?_
   simp only [Act.put, pu]
   refine pw_mv (by rfl) rfl rfl ?_
   simp only [Act.put, pu]
   refine pw_mv (by rfl) rfl rfl ?_
   simp only [Act.put, pu]
   refine pw_callB (by rfl) 17 _ _ rfl Tryd.func17 (by kernel_rfl) #[.pointer v, .pointer (some ⟨g, 0, none⟩), .int .i64 a1] rfl _ (tdraws_no _ v a1 [] _ (hkv _ r57)) ?_
   intro z12006 k
   simp only [Act.put, pu]
   replace r14 := k.row r14 (by simp <;> omega)
   replace rG := k.row rG (by simp <;> omega)
   replace rR := k.row rR (by simp <;> omega)
   replace rF := k.row rF (by simp <;> omega)
   replace r57 := k.row r57 (by simp <;> omega)
   replace rP := k.row rP (by simp <;> omega)
   replace sb := sb.trans (k.below w.heap.size sb.size (by simp <;> omega))
   clear k
   refine pw_mv (by rfl) rfl rfl ?_
   simp only [Act.put, pu]
   refine pw_ext (by rfl) rfl rfl rfl ?_
   simp only [Act.put, pu]
   refine pw_ext (by rfl) rfl rfl rfl ?_
   simp only [Act.put, pu]
   refine pw_as (by rfl) rfl rfl ?_
   simp only [Act.put, pu]
   refine pw_as (by rfl) rfl rfl ?_
   simp only [Act.put, pu]
   refine pw_nil ?_
   (repeat ((fail_if_success with_reducible refine rg ?_); go_step))
   refine wp_region_pw ?_
   refine pw_mv (by rfl) rfl rfl ?_
   simp only [Act.put, pu]
   refine pw_mv (by rfl) rfl rfl ?_
   simp only [Act.put, pu]
   refine pw_value (by rfl) (.pointer (some ⟨gP, 0 + i * 1, none⟩)) (exec_index_s 63 _ _ rfl gP 0 2 2 rfl i rfl hlt _ Tryd.underlying63 1 Tryd.sizeOf24) ?_
   simp only [Act.put, pu]
   refine pw_loadk (by rfl) 24 _ rfl _ (0 + i * 1) rfl rP.r (.pointer v) hv Tryd.isAgg24 ?_
   simp only [Act.put, pu]
   refine pw_callB (by rfl) 10 _ _ rfl Tryd.func10 (by kernel_rfl) #[.pointer v] rfl _ (tleft_no v [] _ (hkv _ r57)) ?_
   intro z13004 k
   simp only [Act.put, pu]
   replace r14 := k.row r14 (by simp <;> omega)
   replace rG := k.row rG (by simp <;> omega)
   replace rR := k.row rR (by simp <;> omega)
   replace rF := k.row rF (by simp <;> omega)
   replace r57 := k.row r57 (by simp <;> omega)
   replace rP := k.row rP (by simp <;> omega)
   replace sb := sb.trans (k.below w.heap.size sb.size (by simp <;> omega))
   clear k
   refine pw_value (by rfl) (.bool false) (exec_neq_k .i64 _ _ _ _ rfl 0 0 rfl rfl false rfl) ?_
   simp only [Act.put, pu]
   refine pw_mv (by rfl) rfl rfl ?_
   simp only [Act.put, pu]
   refine pw_mv (by rfl) rfl rfl ?_
   simp only [Act.put, pu]
   refine pw_value (by rfl) (.bool false) (y_neS _ _ _ _ rfl [] [] rfl rfl false rfl) ?_
   simp only [Act.put, pu]
   refine pw_pick (by rfl) false (v := .bool false) rfl rfl rfl ?_
   simp only [Act.put, pu]
   refine pw_mv (by rfl) rfl rfl ?_
   simp only [Act.put, pu]
   refine pw_mv (by rfl) rfl rfl ?_
   simp only [Act.put, pu]
   refine pw_value (by rfl) (.bool false) (exec_neq_k .i64 _ _ _ _ rfl 1 1 rfl rfl false rfl) ?_
   simp only [Act.put, pu]
   refine pw_pick (by rfl) false (v := .bool false) rfl rfl rfl ?_
   simp only [Act.put, pu]
   refine pw_mv (by rfl) rfl rfl ?_
   simp only [Act.put, pu]
   refine pw_loadm (by rfl) 35 _ rfl _ 0 rfl r14.r _ (part_all _) _ Tryd.underlying35 rfl size_nat ?_
   simp only [Act.put, pu]
   refine pw_value (by rfl) (.agg (natC 0)) (exec_build0 _ rfl _ built_nat) ?_
   simp only [Act.put, pu]
   refine pw_value (by rfl) (.bool false) (fun w' => (exec_neq_nat _ _ _ rfl 0 0 rfl rfl w').trans (by rw [neq_no10])) ?_
   simp only [Act.put, pu]
   refine pw_pick (by rfl) false (v := .bool false) rfl rfl rfl ?_
   simp only [Act.put, pu]
   refine pw_mv (by rfl) rfl rfl ?_
   simp only [Act.put, pu]
   refine pw_mv (by rfl) rfl rfl ?_
   simp only [Act.put, pu]
   refine pw_value (by rfl) (.bool false) (exec_neq_k .i64 _ _ _ _ rfl 1 1 rfl rfl false rfl) ?_
   simp only [Act.put, pu]
   refine pw_pick (by rfl) false (v := .bool false) rfl rfl rfl ?_
   simp only [Act.put, pu]
   refine pw_mv (by rfl) rfl rfl ?_
   simp only [Act.put, pu]
   refine pw_mv (by rfl) rfl rfl ?_
   simp only [Act.put, pu]
   refine pw_value (by rfl) (.int .i64 (0 : Nat)) (exec_len_s 43 _ rfl none 0 0 rfl sl_natsX) ?_
   simp only [Act.put, pu]
   refine pw_value (by rfl) (.bool false) (exec_gt_i _ _ _ _ rfl (0 : Nat) 0 rfl rfl false rfl) ?_
   simp only [Act.put, pu]
   refine pw_pick (by rfl) false (v := .bool false) rfl rfl rfl ?_
   simp only [Act.put, pu]
   refine pw_mv (by rfl) rfl rfl ?_
   simp only [Act.put, pu]
   refine pw_mv (by rfl) rfl rfl ?_
   simp only [Act.put, pu]
   refine pw_value (by rfl) (.bool false) (exec_neq_k .i64 _ _ _ _ rfl 1 1 rfl rfl false rfl) ?_
   simp only [Act.put, pu]
   refine pw_pick (by rfl) false (v := .bool false) rfl rfl rfl ?_
   simp only [Act.put, pu]
   refine pw_nil ?_
   clear r14
   (repeat ((fail_if_success with_reducible refine rg ?_); go_step))
   refine wp_region_pw ?_
   refine pw_mv (by rfl) rfl rfl ?_
   simp only [Act.put, pu]
   refine pw_value (by rfl) (.int .i64 ((i + 1 : Nat) : Int)) (exec_add_in _ _ _ _ rfl i 1 rfl rfl (by omega)) ?_
   simp only [Act.put, pu]
   refine pw_as (by rfl) rfl rfl ?_
   simp only [Act.put, pu]
   refine pw_nil ?_
   go_wp2
   go_roundg gg
   case measure => omega
   case rel => exact ⟨i + 1, by omega, rfl, ⟨rG, rR, rF⟩, r57, rP, sb⟩
set_option maxRecDepth 100000 in
set_option maxHeartbeats 2000000 in
theorem core2 (a0 a1 : Int) (z3 M : Nat) (w : World) (hz3 : bits .and .i64 a0 7 = (z3 : Int)) (h8 : z3 < 8) (hM : 65533 + z3 = M) (hbig : M ≤ 65536) :
  Calls Tryd.prog 6 #[.int .i64 a0, .int .i64 a1] w fun e w' => e = .returned (.bool true) ∧ Below w.heap.size w w' := by
 have haw := awake10_any
 obtain ⟨ie, hie, hz, hsz, hby⟩ := info_u8'
 obtain ⟨ip, hip, hzp, hsz0⟩ := info_pt
 have hp1 : ¬ 2 * ip.size > 2 ^ 24 := by rw [hsz0]; decide
 have hp2 : ¬ 2 * ip.size = 0 := by rw [hsz0]; decide
 have hl := fun v => lit_pt v ip.size hsz0
 have hnw := fun w' g (r : Row w' g (lksC 3 (lN leL) twoA) 66) => gnew_yes 3 3 (some ⟨g, 0, none⟩) leG _ _ g 0 _ _ w' (by decide) (by decide) (lks_links r le_lt) least_is
 rw [le_p, le_q] at hnw
 have hab := fun w' => tnew_ok abL w' (by decide)
 have htn := fun w' => tnew_ok (List.replicate M 0) w' (by rw [List.length_replicate]; exact hbig)
 go_enter Tryd.func6, Tryd.ntmps6
 have sb := sbmk w
 (repeat ((fail_if_success with_reducible refine rg ?_); go_step))
 refine wp_region_pw ?_
 refine pw_value (by rfl) (.bool false) (fun _ => rfl) ?_
 simp only [Act.put, pu]
 refine pw_nil ?_
 (repeat ((fail_if_success with_reducible refine rg ?_); go_step))
 refine wp_region_pw ?_
 refine pw_mv (by rfl) rfl rfl ?_
 simp only [Act.put, pu]
 refine pw_value (by rfl) (.int .i64 (z3 : Nat)) (fun w' => (exec_bits_i .and _ _ _ _ (.inl rfl) rfl a0 7 rfl rfl w').trans (by rw [hz3])) ?_
 simp only [Act.put, pu]
 refine pw_value (by rfl) (.int .i64 (M : Nat)) (fun w' => (exec_add_in _ _ _ _ rfl 65533 z3 rfl rfl (by omega) w').trans (by rw [hM])) ?_
 simp only [Act.put, pu]
 refine pw_as (by rfl) rfl rfl ?_
 simp only [Act.put, pu]
 refine pw_nil ?_
 (repeat ((fail_if_success with_reducible refine rg ?_); go_step))
 refine wp_region_pw ?_
 refine pw_mv (by rfl) rfl rfl ?_
 simp only [Act.put, pu]
 refine pw_make (by rfl) 58 5 _ _ rfl ie _ Tryd.underlying58 hie hz M rfl rfl (by rw [hsz]; omega) (by rw [hby]; omega) (by omega) ?_
 intro gB z2001 n0 rB k
 simp only [Act.put, pu]
 have bB := Nat.le_trans sb.size n0
 clear n0
 replace sb := sb.trans (k.below w.heap.size sb.size (by simp <;> omega))
 clear k
 refine pw_run (by rfl) (.string ⟨(List.replicate M 0).toArray⟩) _ (y_str _ rfl gB 0 M M (List.replicate M 0) rfl (List.length_replicate) _ rB.r (by rw [hsz, Nat.mul_one]; exact made_z M)) ?_
 simp only [Act.put, pu]
 refine pw_callE (by rfl) 8 _ _ rfl Tryd.func8 (by kernel_rfl) #[.string ⟨(List.replicate M 0).toArray⟩] rfl (htn _) ?_
 rintro _ z2003 ⟨gQ, rfl, nQ, rQ, hb⟩
 refine ⟨_, rfl, ?_⟩
 simp only [Act.put, pu]
 have dBxQ := Nat.lt_of_lt_of_le rB.lt nQ
 have bQ := Nat.le_trans sb.size nQ
 clear nQ
 have k := Kept.ofBelow hb
 clear hb
 replace rB := k.row rB (by simp <;> omega)
 replace sb := sb.trans (k.below w.heap.size sb.size (by simp <;> omega))
 clear k
 refine pw_mv (by rfl) rfl rfl ?_
 simp only [Act.put, pu]
 refine pw_ext (by rfl) rfl rfl rfl ?_
 simp only [Act.put, pu]
 refine pw_ext (by rfl) rfl rfl rfl ?_
 simp only [Act.put, pu]
 refine pw_as (by rfl) rfl rfl ?_
 simp only [Act.put, pu]
 refine pw_as (by rfl) rfl rfl ?_
 simp only [Act.put, pu]
 refine pw_nil ?_
 clear htn rB
 (repeat ((fail_if_success with_reducible refine rg ?_); go_step))
 refine wp_region_pw ?_
 refine pw_mv (by rfl) rfl rfl ?_
 simp only [Act.put, pu]
 refine pw_value (by rfl) (.bool true) (exec_eql_k .i64 _ _ _ _ rfl 0 0 rfl rfl true rfl) ?_
 simp only [Act.put, pu]
 refine pw_mv (by rfl) rfl rfl ?_
 simp only [Act.put, pu]
 refine pw_value (by rfl) (.bool true) (exec_leq_i _ _ _ _ rfl (M : Nat) 65536 rfl rfl true (decide_eq_true (by omega))) ?_
 simp only [Act.put, pu]
 refine pw_value (by rfl) (.bool false) (y_neB _ _ _ _ rfl true true rfl rfl Tryd.underlying4 false rfl) ?_
 simp only [Act.put, pu]
 refine pw_mv (by rfl) rfl rfl ?_
 simp only [Act.put, pu]
 refine pw_mv (by rfl) rfl rfl ?_
 simp only [Act.put, pu]
 refine pw_value (by rfl) (.bool false) (exec_neq_k .i64 _ _ _ _ rfl 0 0 rfl rfl false rfl) ?_
 simp only [Act.put, pu]
 refine pw_mv (by rfl) rfl rfl ?_
 simp only [Act.put, pu]
 refine pw_skip (by rfl) ?_
 simp only [Act.put, pu]
 refine pw_skip (by rfl) ?_
 simp only [Act.put, pu]
 refine pw_skip (by rfl) ?_
 simp only [Act.put, pu]
 refine pw_skip (by rfl) ?_
 simp only [Act.put, pu]
 refine pw_skip (by rfl) ?_
 simp only [Act.put, pu]
 refine pw_skip (by rfl) ?_
 simp only [Act.put, pu]
 refine pw_pick (by rfl) false (v := .bool false) rfl rfl rfl ?_
 simp only [Act.put, pu]
 refine pw_pick (by rfl) false (v := .bool false) rfl rfl rfl ?_
 simp only [Act.put, pu]
 refine pw_nil ?_
 clear rQ
 (repeat ((fail_if_success with_reducible refine rg ?_); go_step))
 refine wp_region_pw ?_
 refine pw_callE (by rfl) 11 _ _ rfl Tryd.func11 (by kernel_rfl) #[] rfl (rleast_any _) ?_
 rintro _ z5000 ⟨gL, rfl, nL, rL, hb⟩
 refine ⟨_, rfl, ?_⟩
 simp only [Act.put, pu]
 have bL := Nat.le_trans sb.size nL
 clear nL
 have k := Kept.ofBelow hb
 clear hb
 replace sb := sb.trans (k.below w.heap.size sb.size (by simp <;> omega))
 clear k
 refine pw_callE (by rfl) 14 _ _ rfl Tryd.func14 (by kernel_rfl) #[.agg (paC (some ⟨gL, 0, none⟩) 3 3 leG)] rfl (hnw _ gL rL) ?_
 rintro _ z5001 ⟨g, gr, gf, rfl, ⟨rG, rR, rF⟩, hb⟩
 refine ⟨_, rfl, ?_⟩
 simp only [Act.put, pu]
 have k := Kept.ofBelow hb
 clear hb
 replace rL := k.row rL (by simp <;> omega)
 replace sb := sb.trans (k.below w.heap.size sb.size (by simp <;> omega))
 clear k
 refine pw_mv (by rfl) rfl rfl ?_
 simp only [Act.put, pu]
 refine pw_ext (by rfl) rfl rfl rfl ?_
 simp only [Act.put, pu]
 refine pw_ext (by rfl) rfl rfl rfl ?_
 simp only [Act.put, pu]
 refine pw_as (by rfl) rfl rfl ?_
 simp only [Act.put, pu]
 refine pw_as (by rfl) rfl rfl ?_
 simp only [Act.put, pu]
 refine pw_nil ?_
 clear hnw rL
 (repeat ((fail_if_success with_reducible refine rg ?_); go_step))
 refine wp_region_pw ?_
 refine pw_value (by rfl) (.agg (tpC false [])) (exec_build0 _ rfl _ built_tp0) ?_
 simp only [Act.put, pu]
 refine pw_boxr (by rfl) 62 _ rfl (_) rfl ?_
 intro g57 z6001 n0 r57 k
 simp only [Act.put, pu]
 have dGx57 := Nat.lt_of_lt_of_le rG.lt n0
 have dRx57 := Nat.lt_of_lt_of_le rR.lt n0
 have dFx57 := Nat.lt_of_lt_of_le rF.lt n0
 have b57 := Nat.le_trans sb.size n0
 clear n0
 replace rG := k.row rG (by simp <;> omega)
 replace rR := k.row rR (by simp <;> omega)
 replace rF := k.row rF (by simp <;> omega)
 replace sb := sb.trans (k.below w.heap.size sb.size (by simp <;> omega))
 clear k
 refine pw_litr (by rfl) 63 24 2 _ rfl #[.pointer none, .pointer (some ⟨g57, 0, none⟩)] ip _ Tryd.underlying63 hip hzp hp1 hp2 [(0, .pointer none), (1, .pointer (some ⟨g57, 0, none⟩))] rfl (hl _) ?_
 intro gP z6002 n0 rP k
 simp only [Act.put, pu]
 have dGxP := Nat.lt_of_lt_of_le rG.lt n0
 have dRxP := Nat.lt_of_lt_of_le rR.lt n0
 have dFxP := Nat.lt_of_lt_of_le rF.lt n0
 have d57xP := Nat.lt_of_lt_of_le r57.lt n0
 have bP := Nat.le_trans sb.size n0
 clear n0
 replace rG := k.row rG (by simp <;> omega)
 replace rR := k.row rR (by simp <;> omega)
 replace rF := k.row rF (by simp <;> omega)
 replace r57 := k.row r57 (by simp <;> omega)
 replace sb := sb.trans (k.below w.heap.size sb.size (by simp <;> omega))
 clear k
 refine pw_as (by rfl) rfl rfl ?_
 simp only [Act.put, pu]
 refine pw_nil ?_
 clear hl hp1 hp2 hzp hip hsz0
 (repeat ((fail_if_success with_reducible refine rg ?_); go_step))
 refine wp_region_pw ?_
 refine pw_value (by rfl) (.int .i64 0) (fun _ => rfl) ?_
 simp only [Act.put, pu]
 refine pw_nil ?_
 go_wp2_with fail
 go_loopg [11, 12, 13, 14, 15, 16, 17] 2 (fun gg s11 s12 s13 s14 s15 s16 s17 wr => ∃ i : Nat, i + gg = 2 ∧ s11 = .int .i64 i ∧ GrpAt wr g gr gf 1055500680322183127 1966023127 leG ∧ Row wr g57 (tpC false []) 62 ∧ Row wr gP #[.pointer none, .pointer (some ⟨g57, 0, none⟩)] 24 ∧ Below w.heap.size w wr)
 case atStart => exact ⟨0, by omega, rfl, ⟨rG, rR, rF⟩, r57, rP, sb⟩
 case round =>
  clear rG rR rF r57 rP sb
  obtain ⟨i, hi, rfl, ⟨rG, rR, rF⟩, r57, rP, sb⟩ := hrel
  cases gk with
  | zero =>
   obtain rfl : i = 2 := by omega
   clear hi r57 rP
   (repeat ((fail_if_success with_reducible refine rg ?_); go_step))
   refine wp_region_pw ?_
   refine pw_mv (by rfl) rfl rfl ?_
   simp only [Act.put, pu]
   refine pw_mv (by rfl) rfl rfl ?_
   simp only [Act.put, pu]
   refine pw_value (by rfl) (.int .i64 2) (exec_len_s 63 _ rfl (some ⟨gP, 0, none⟩) 2 2 rfl sl_tps) ?_
   simp only [Act.put, pu]
   refine pw_value (by rfl) (.bool false) (exec_lt_b _ _ _ _ rfl ((2 : Nat) : Int) 2 rfl rfl false rfl) ?_
   simp only [Act.put, pu]
   refine pw_nil ?_
   (repeat ((fail_if_success with_reducible refine rg ?_); go_step))
   refine wp_region_pw ?_
   refine pw_callE (by rfl) 8 _ _ rfl Tryd.func8 (by kernel_rfl) #[.string ⟨(abL).toArray⟩] rfl (hab _) ?_
   rintro _ z15000 ⟨gT, rfl, nT, rT, hb⟩
   refine ⟨_, rfl, ?_⟩
   simp only [Act.put, pu]
   have dGxT := Nat.lt_of_lt_of_le rG.lt nT
   have dRxT := Nat.lt_of_lt_of_le rR.lt nT
   have dFxT := Nat.lt_of_lt_of_le rF.lt nT
   have bT := Nat.le_trans sb.size nT
   clear nT
   have k := Kept.ofBelow hb
   clear hb
   replace rG := k.row rG (by simp <;> omega)
   replace rR := k.row rR (by simp <;> omega)
   replace rF := k.row rF (by simp <;> omega)
   replace sb := sb.trans (k.below w.heap.size sb.size (by simp <;> omega))
   clear k
   refine pw_mv (by rfl) rfl rfl ?_
   simp only [Act.put, pu]
   refine pw_ext (by rfl) rfl rfl rfl ?_
   simp only [Act.put, pu]
   refine pw_ext (by rfl) rfl rfl rfl ?_
   simp only [Act.put, pu]
   refine pw_as (by rfl) rfl rfl ?_
   simp only [Act.put, pu]
   refine pw_as (by rfl) rfl rfl ?_
   simp only [Act.put, pu]
   refine pw_nil ?_
   clear hab
   (repeat ((fail_if_success with_reducible refine rg ?_); go_step))
   refine wp_region_pw ?_
   refine pw_mv (by rfl) rfl rfl ?_
   simp only [Act.put, pu]
   refine pw_callB (by rfl) 18 _ _ rfl Tryd.func18 (by kernel_rfl) #[.pointer (some ⟨gT, 0, none⟩), .pointer none] rfl _ (tdraw_nog gT none abL _ rT (.inl ⟨rfl, rfl, rfl, rfl, rfl, rfl⟩)) ?_
   intro z16001 k
   simp only [Act.put, pu]
   replace rG := k.row rG (by simp <;> omega)
   replace rR := k.row rR (by simp <;> omega)
   replace rF := k.row rF (by simp <;> omega)
   replace rT := k.row rT (by simp <;> omega)
   replace sb := sb.trans (k.below w.heap.size sb.size (by simp <;> omega))
   clear k
   refine pw_mv (by rfl) rfl rfl ?_
   simp only [Act.put, pu]
   refine pw_ext (by rfl) rfl rfl rfl ?_
   simp only [Act.put, pu]
   refine pw_ext (by rfl) rfl rfl rfl ?_
   simp only [Act.put, pu]
   refine pw_new (by rfl) 35 rfl _ zero_nat ?_
   intro g20 z16005 n0 r20 k
   simp only [Act.put, pu]
   have dGx20 := Nat.lt_of_lt_of_le rG.lt n0
   have dRx20 := Nat.lt_of_lt_of_le rR.lt n0
   have dFx20 := Nat.lt_of_lt_of_le rF.lt n0
   have dTx20 := Nat.lt_of_lt_of_le rT.lt n0
   have b20 := Nat.le_trans sb.size n0
   clear n0
   replace rG := k.row rG (by simp <;> omega)
   replace rR := k.row rR (by simp <;> omega)
   replace rF := k.row rF (by simp <;> omega)
   replace rT := k.row rT (by simp <;> omega)
   replace sb := sb.trans (k.below w.heap.size sb.size (by simp <;> omega))
   clear k
   refine pw_put (by rfl) 35 _ _ rfl _ rfl r20 (natC 0) rfl (by exact size_nat) (by simp only [natC_size]) (natC_one _) ?_
   clear r20
   intro z16006 r20 k
   simp only [Act.put]
   replace rG := k.row rG (by simp <;> omega)
   replace rR := k.row rR (by simp <;> omega)
   replace rF := k.row rF (by simp <;> omega)
   replace rT := k.row rT (by simp <;> omega)
   replace sb := sb.trans (k.below w.heap.size sb.size (by simp <;> omega))
   clear k
   refine pw_as (by rfl) rfl rfl ?_
   simp only [Act.put, pu]
   refine pw_nil ?_
   (repeat ((fail_if_success with_reducible refine rg ?_); go_step))
   refine wp_region_pw ?_
   refine pw_mv (by rfl) rfl rfl ?_
   simp only [Act.put, pu]
   refine pw_mv (by rfl) rfl rfl ?_
   simp only [Act.put, pu]
   refine pw_callB (by rfl) 17 _ _ rfl Tryd.func17 (by kernel_rfl) #[.pointer (some ⟨gT, 0, none⟩), .pointer (some ⟨g, 0, none⟩), .int .i64 (-1)] rfl _ (tdraws_neg gT _ _ _ _ _ _ (-1) abL _ (by decide) (by decide) (by decide) rT (GrpAt.kn ⟨rG, rR, rF⟩)) ?_
   intro z17002 k
   simp only [Act.put, pu]
   replace rG := k.row rG (by simp <;> omega)
   replace rR := k.row rR (by simp <;> omega)
   replace rF := k.row rF (by simp <;> omega)
   replace rT := k.row rT (by simp <;> omega)
   replace sb := sb.trans (k.below w.heap.size sb.size (by simp <;> omega))
   clear k
   refine pw_mv (by rfl) rfl rfl ?_
   simp only [Act.put, pu]
   refine pw_ext (by rfl) rfl rfl rfl ?_
   simp only [Act.put, pu]
   refine pw_ext (by rfl) rfl rfl rfl ?_
   simp only [Act.put, pu]
   refine pw_as (by rfl) rfl rfl ?_
   simp only [Act.put, pu]
   refine pw_as (by rfl) rfl rfl ?_
   simp only [Act.put, pu]
   refine pw_nil ?_
   (repeat ((fail_if_success with_reducible refine rg ?_); go_step))
   refine wp_region_pw ?_
   refine pw_mv (by rfl) rfl rfl ?_
   simp only [Act.put, pu]
   refine pw_value (by rfl) (.bool true) (exec_eql_k .i64 _ _ _ _ rfl 0 0 rfl rfl true rfl) ?_
   simp only [Act.put, pu]
   refine pw_mv (by rfl) rfl rfl ?_
   simp only [Act.put, pu]
   refine pw_mv (by rfl) rfl rfl ?_
   simp only [Act.put, pu]
   refine pw_value (by rfl) (.bool true) (exec_eql_k .i64 _ _ _ _ rfl 1 1 rfl rfl true rfl) ?_
   simp only [Act.put, pu]
   refine pw_pick (by rfl) true (v := .bool true) rfl rfl rfl ?_
   simp only [Act.put, pu]
   refine pw_mv (by rfl) rfl rfl ?_
   simp only [Act.put, pu]
   refine pw_mv (by rfl) rfl rfl ?_
   simp only [Act.put, pu]
   refine pw_value (by rfl) (.bool true) (exec_eql_k .i64 _ _ _ _ rfl 1 1 rfl rfl true rfl) ?_
   simp only [Act.put, pu]
   refine pw_pick (by rfl) true (v := .bool true) rfl rfl rfl ?_
   simp only [Act.put, pu]
   refine pw_mv (by rfl) rfl rfl ?_
   simp only [Act.put, pu]
   refine pw_mv (by rfl) rfl rfl ?_
   simp only [Act.put, pu]
   refine pw_callB (by rfl) 10 _ _ rfl Tryd.func10 (by kernel_rfl) #[.pointer (some ⟨gT, 0, none⟩)] rfl _ (tleft_ok gT abL _ rT) ?_
   intro z18012 k
   simp only [Act.put, pu]
   replace rT := k.row rT (by simp <;> omega)
   replace sb := sb.trans (k.below w.heap.size sb.size (by simp <;> omega))
   clear k
   refine pw_value (by rfl) (.bool true) (exec_eql_k .i64 _ _ _ _ rfl (abL.length : Nat) 8 rfl rfl true rfl) ?_
   simp only [Act.put, pu]
   refine pw_pick (by rfl) true (v := .bool true) rfl rfl rfl ?_
   simp only [Act.put, pu]
   refine pw_mv (by rfl) rfl rfl ?_
   simp only [Act.put, pu]
   refine pw_callB (by rfl) 7 _ _ rfl Tryd.func7 (by kernel_rfl) #[] rfl _ (haw _) ?_
   intro z18016 k
   simp only [Act.put, pu]
   replace rT := k.row rT (by simp <;> omega)
   replace sb := sb.trans (k.below w.heap.size sb.size (by simp <;> omega))
   clear k
   refine pw_pick (by rfl) true (v := .bool true) rfl rfl rfl ?_
   simp only [Act.put, pu]
   refine pw_as (by rfl) rfl rfl ?_
   simp only [Act.put, pu]
   refine pw_nil ?_
   go_wp2
   go_ret
   exact ⟨rfl, sb⟩
  | succ gg =>
   clear haw hab
   have hlt : i < 2 := by omega
   have hv := v_at g57 i hlt
   have hkv : ∀ w', Row w' g57 (tpC false []) 62 → TpAt w' (vOf g57 i) false [] := fun w' h => v_no i h
   generalize vOf g57 i = v at *
   (repeat ((fail_if_success with_reducible refine rg ?_); go_step))
   refine wp_region_pw ?_
   refine pw_mv (by rfl) rfl rfl ?_
   simp only [Act.put, pu]
   refine pw_mv (by rfl) rfl rfl ?_
   simp only [Act.put, pu]
   refine pw_value (by rfl) (.int .i64 2) (exec_len_s 63 _ rfl (some ⟨gP, 0, none⟩) 2 2 rfl sl_tps) ?_
   simp only [Act.put, pu]
   refine pw_value (by rfl) (.bool true) (exec_lt_b _ _ _ _ rfl i 2 rfl rfl true (decide_eq_true (by omega))) ?_
   simp only [Act.put, pu]
   refine pw_nil ?_
   (repeat ((fail_if_success with_reducible refine rg ?_); go_step))
   refine wp_region_pw ?_
   refine pw_mv (by rfl) rfl rfl ?_
   simp only [Act.put, pu]
   refine pw_mv (by rfl) rfl rfl ?_
   simp only [Act.put, pu]
   refine pw_value (by rfl) (.pointer (some ⟨gP, 0 + i * 1, none⟩)) (exec_index_s 63 _ _ rfl gP 0 2 2 rfl i rfl hlt _ Tryd.underlying63 1 Tryd.sizeOf24) ?_
   simp only [Act.put, pu]
   refine pw_loadk (by rfl) 24 _ rfl _ (0 + i * 1) rfl rP.r (.pointer v) hv Tryd.isAgg24 ?_
   simp only [Act.put, pu]
   refine pw_mv (by rfl) rfl rfl ?_
   simp only [Act.put, pu]
   refine pw_callB (by rfl) 9 _ _ rfl Tryd.func9 (by kernel_rfl) #[.pointer v, .int .i64 a1] rfl _ (tbytes_no v [] a1 _ (hkv _ r57)) ?_
   intro z10005 k
   simp only [Act.put, pu]
   replace rG := k.row rG (by simp <;> omega)
   replace rR := k.row rR (by simp <;> omega)
   replace rF := k.row rF (by simp <;> omega)
   replace r57 := k.row r57 (by simp <;> omega)
   replace rP := k.row rP (by simp <;> omega)
   replace sb := sb.trans (k.below w.heap.size sb.size (by simp <;> omega))
   clear k
   refine pw_mv (by rfl) rfl rfl ?_
   simp only [Act.put, pu]
   refine pw_ext (by rfl) rfl rfl rfl ?_
   simp only [Act.put, pu]
   refine pw_ext (by rfl) rfl rfl rfl ?_
   simp only [Act.put, pu]
   refine pw_as (by rfl) rfl rfl ?_
   simp only [Act.put, pu]
   refine pw_as (by rfl) rfl rfl ?_
   simp only [Act.put, pu]
   refine pw_nil ?_
   (repeat ((fail_if_success with_reducible refine rg ?_); go_step))
   refine wp_region_pw ?_
   refine pw_mv (by rfl) rfl rfl ?_
   simp only [Act.put, pu]
   refine pw_mv (by rfl) rfl rfl ?_
   simp only [Act.put, pu]
   refine pw_value (by rfl) (.pointer (some ⟨gP, 0 + i * 1, none⟩)) (exec_index_s 63 _ _ rfl gP 0 2 2 rfl i rfl hlt _ Tryd.underlying63 1 Tryd.sizeOf24) ?_
   simp only [Act.put, pu]
   refine pw_loadk (by rfl) 24 _ rfl _ (0 + i * 1) rfl rP.r (.pointer v) hv Tryd.isAgg24 ?_
   simp only [Act.put, pu]
   refine pw_mv (by rfl) rfl rfl ?_
   simp only [Act.put, pu]
   refine pw_callB (by rfl) 18 _ _ rfl Tryd.func18 (by kernel_rfl) #[.pointer v, .pointer (some ⟨g, 0, none⟩)] rfl _ (tdraw_no _ v [] _ (hkv _ r57)) ?_
   intro z11005 k
   simp only [Act.put, pu]
   replace rG := k.row rG (by simp <;> omega)
   replace rR := k.row rR (by simp <;> omega)
   replace rF := k.row rF (by simp <;> omega)
   replace r57 := k.row r57 (by simp <;> omega)
   replace rP := k.row rP (by simp <;> omega)
   replace sb := sb.trans (k.below w.heap.size sb.size (by simp <;> omega))
   clear k
   refine pw_mv (by rfl) rfl rfl ?_
   simp only [Act.put, pu]
   refine pw_ext (by rfl) rfl rfl rfl ?_
   simp only [Act.put, pu]
   refine pw_ext (by rfl) rfl rfl rfl ?_
   simp only [Act.put, pu]
   refine pw_new (by rfl) 35 rfl _ zero_nat ?_
   intro g14 z11009 n0 r14 k
   simp only [Act.put, pu]
   have dGx14 := Nat.lt_of_lt_of_le rG.lt n0
   have dRx14 := Nat.lt_of_lt_of_le rR.lt n0
   have dFx14 := Nat.lt_of_lt_of_le rF.lt n0
   have d57x14 := Nat.lt_of_lt_of_le r57.lt n0
   have dPx14 := Nat.lt_of_lt_of_le rP.lt n0
   have b14 := Nat.le_trans sb.size n0
   clear n0
   replace rG := k.row rG (by simp <;> omega)
   replace rR := k.row rR (by simp <;> omega)
   replace rF := k.row rF (by simp <;> omega)
   replace r57 := k.row r57 (by simp <;> omega)
   replace rP := k.row rP (by simp <;> omega)
   replace sb := sb.trans (k.below w.heap.size sb.size (by simp <;> omega))
   clear k
   refine pw_put (by rfl) 35 _ _ rfl _ rfl r14 (natC 0) rfl (by exact size_nat) (by simp only [natC_size]) (natC_one _) ?_
   clear r14
   intro z11010 r14 k
   simp only [Act.put]
   replace rG := k.row rG (by simp <;> omega)
   replace rR := k.row rR (by simp <;> omega)
   replace rF := k.row rF (by simp <;> omega)
   replace r57 := k.row r57 (by simp <;> omega)
   replace rP := k.row rP (by simp <;> omega)
   replace sb := sb.trans (k.below w.heap.size sb.size (by simp <;> omega))
   clear k
   refine pw_as (by rfl) rfl rfl ?_
   simp only [Act.put, pu]
   refine pw_nil ?_
   (repeat ((fail_if_success with_reducible refine rg ?_); go_step))
   refine wp_region_pw ?_
   refine pw_mv (by rfl) rfl rfl ?_
   simp only [Act.put, pu]
   refine pw_mv (by rfl) rfl rfl ?_
   simp only [Act.put, pu]
   refine pw_value (by rfl) (.pointer (some ⟨gP, 0 + i * 1, none⟩)) (exec_index_s 63 _ _ rfl gP 0 2 2 rfl i rfl hlt _ Tryd.underlying63 1 Tryd.sizeOf24) ?_
   simp only [Act.put, pu]
   refine pw_loadk (by rfl) 24 _ rfl _ (0 + i * 1) rfl rP.r (.pointer v) hv Tryd.isAgg24 ?_
   simp only [Act.put, pu]
   refine pw_mv (by rfl) rfl rfl ?_
   simp only [Act.put, pu]
   refine pw_mv (by rfl) rfl rfl ?_
   simp only [Act.put, pu]
   refine pw_callB (by rfl) 17 _ _ rfl Tryd.func17 (by kernel_rfl) #[.pointer v, .pointer (some ⟨g, 0, none⟩), .int .i64 a1] rfl _ (tdraws_no _ v a1 [] _ (hkv _ r57)) ?_
   intro z12006 k
   simp only [Act.put, pu]
   replace r14 := k.row r14 (by simp <;> omega)
   replace rG := k.row rG (by simp <;> omega)
   replace rR := k.row rR (by simp <;> omega)
   replace rF := k.row rF (by simp <;> omega)
   replace r57 := k.row r57 (by simp <;> omega)
   replace rP := k.row rP (by simp <;> omega)
   replace sb := sb.trans (k.below w.heap.size sb.size (by simp <;> omega))
   clear k
   refine pw_mv (by rfl) rfl rfl ?_
   simp only [Act.put, pu]
   refine pw_ext (by rfl) rfl rfl rfl ?_
   simp only [Act.put, pu]
   refine pw_ext (by rfl) rfl rfl rfl ?_
   simp only [Act.put, pu]
   refine pw_as (by rfl) rfl rfl ?_
   simp only [Act.put, pu]
   refine pw_as (by rfl) rfl rfl ?_
   simp only [Act.put, pu]
   refine pw_nil ?_
   (repeat ((fail_if_success with_reducible refine rg ?_); go_step))
   refine wp_region_pw ?_
   refine pw_mv (by rfl) rfl rfl ?_
   simp only [Act.put, pu]
   refine pw_mv (by rfl) rfl rfl ?_
   simp only [Act.put, pu]
   refine pw_value (by rfl) (.pointer (some ⟨gP, 0 + i * 1, none⟩)) (exec_index_s 63 _ _ rfl gP 0 2 2 rfl i rfl hlt _ Tryd.underlying63 1 Tryd.sizeOf24) ?_
   simp only [Act.put, pu]
   refine pw_loadk (by rfl) 24 _ rfl _ (0 + i * 1) rfl rP.r (.pointer v) hv Tryd.isAgg24 ?_
   simp only [Act.put, pu]
   refine pw_callB (by rfl) 10 _ _ rfl Tryd.func10 (by kernel_rfl) #[.pointer v] rfl _ (tleft_no v [] _ (hkv _ r57)) ?_
   intro z13004 k
   simp only [Act.put, pu]
   replace r14 := k.row r14 (by simp <;> omega)
   replace rG := k.row rG (by simp <;> omega)
   replace rR := k.row rR (by simp <;> omega)
   replace rF := k.row rF (by simp <;> omega)
   replace r57 := k.row r57 (by simp <;> omega)
   replace rP := k.row rP (by simp <;> omega)
   replace sb := sb.trans (k.below w.heap.size sb.size (by simp <;> omega))
   clear k
   refine pw_value (by rfl) (.bool false) (exec_neq_k .i64 _ _ _ _ rfl 0 0 rfl rfl false rfl) ?_
   simp only [Act.put, pu]
   refine pw_mv (by rfl) rfl rfl ?_
   simp only [Act.put, pu]
   refine pw_mv (by rfl) rfl rfl ?_
   simp only [Act.put, pu]
   refine pw_value (by rfl) (.bool false) (y_neS _ _ _ _ rfl [] [] rfl rfl false rfl) ?_
   simp only [Act.put, pu]
   refine pw_pick (by rfl) false (v := .bool false) rfl rfl rfl ?_
   simp only [Act.put, pu]
   refine pw_mv (by rfl) rfl rfl ?_
   simp only [Act.put, pu]
   refine pw_mv (by rfl) rfl rfl ?_
   simp only [Act.put, pu]
   refine pw_value (by rfl) (.bool false) (exec_neq_k .i64 _ _ _ _ rfl 1 1 rfl rfl false rfl) ?_
   simp only [Act.put, pu]
   refine pw_pick (by rfl) false (v := .bool false) rfl rfl rfl ?_
   simp only [Act.put, pu]
   refine pw_mv (by rfl) rfl rfl ?_
   simp only [Act.put, pu]
   refine pw_loadm (by rfl) 35 _ rfl _ 0 rfl r14.r _ (part_all _) _ Tryd.underlying35 rfl size_nat ?_
   simp only [Act.put, pu]
   refine pw_value (by rfl) (.agg (natC 0)) (exec_build0 _ rfl _ built_nat) ?_
   simp only [Act.put, pu]
   refine pw_value (by rfl) (.bool false) (fun w' => (exec_neq_nat _ _ _ rfl 0 0 rfl rfl w').trans (by rw [neq_no10])) ?_
   simp only [Act.put, pu]
   refine pw_pick (by rfl) false (v := .bool false) rfl rfl rfl ?_
   simp only [Act.put, pu]
   refine pw_mv (by rfl) rfl rfl ?_
   simp only [Act.put, pu]
   refine pw_mv (by rfl) rfl rfl ?_
   simp only [Act.put, pu]
   refine pw_value (by rfl) (.bool false) (exec_neq_k .i64 _ _ _ _ rfl 1 1 rfl rfl false rfl) ?_
   simp only [Act.put, pu]
   refine pw_pick (by rfl) false (v := .bool false) rfl rfl rfl ?_
   simp only [Act.put, pu]
   refine pw_mv (by rfl) rfl rfl ?_
   simp only [Act.put, pu]
   refine pw_mv (by rfl) rfl rfl ?_
   simp only [Act.put, pu]
   refine pw_value (by rfl) (.int .i64 (0 : Nat)) (exec_len_s 43 _ rfl none 0 0 rfl sl_natsX) ?_
   simp only [Act.put, pu]
   refine pw_value (by rfl) (.bool false) (exec_gt_i _ _ _ _ rfl (0 : Nat) 0 rfl rfl false rfl) ?_
   simp only [Act.put, pu]
   refine pw_pick (by rfl) false (v := .bool false) rfl rfl rfl ?_
   simp only [Act.put, pu]
   refine pw_mv (by rfl) rfl rfl ?_
   simp only [Act.put, pu]
   refine pw_mv (by rfl) rfl rfl ?_
   simp only [Act.put, pu]
   refine pw_value (by rfl) (.bool false) (exec_neq_k .i64 _ _ _ _ rfl 1 1 rfl rfl false rfl) ?_
   simp only [Act.put, pu]
   refine pw_pick (by rfl) false (v := .bool false) rfl rfl rfl ?_
   simp only [Act.put, pu]
   refine pw_nil ?_
   clear r14
   (repeat ((fail_if_success with_reducible refine rg ?_); go_step))
   refine wp_region_pw ?_
   refine pw_mv (by rfl) rfl rfl ?_
   simp only [Act.put, pu]
   refine pw_value (by rfl) (.int .i64 ((i + 1 : Nat) : Int)) (exec_add_in _ _ _ _ rfl i 1 rfl rfl (by omega)) ?_
   simp only [Act.put, pu]
   refine pw_as (by rfl) rfl rfl ?_
   simp only [Act.put, pu]
   refine pw_nil ?_
   go_wp2
   go_roundg gg
   case measure => omega
   case rel => exact ⟨i + 1, by omega, rfl, ⟨rG, rR, rF⟩, r57, rP, sb⟩
theorem walk (a0 a1 : Int) (w : World) :
  Calls Tryd.prog 6 #[.int .i64 a0, .int .i64 a1] w fun e w' => e = .returned (.bool true) ∧ Below w.heap.size w w' := by
 have h8 := ly3_lt a0
 by_cases h : 65536 < 65533 + ly3 a0
 ·exact core1 a0 a1 (ly3 a0) _ w (and_ly3 a0) h8 rfl h
 ·exact core2 a0 a1 (ly3 a0) _ w (and_ly3 a0) h8 rfl (by omega)
set_option maxRecDepth 100000 in
theorem lifted (os : Os) (started : os.Started) (H : Type) (enc : TypeId × Value → H) :
  ReturnsInHanded {} Tryd.checked os 6 .any (fun w args => (Rows.tapeNobodySpec.pre enc Tryd.prog Tryd.f6 [] false w args ∧ laidMetH Tryd.prog lk w) ∧ sizedMet enc Tryd.prog Tryd.f6 (OpenSpec.ofChange Rows.tapeNobodySpec) false w args)
   (Rows.tapeNobodySpec.post enc Tryd.prog Tryd.f6 false true false false) := by
 refine returnsInHanded_of_change_and (C := Tryd.checked) (X := fun w _ => laidMetH Tryd.prog lk w) (fun _ _ _ hh h => h.of_heap hh) own started (by kernel_rfl) Tryd.func6
  (ChangeSpec.witness_shaped (enc := enc) (C := Tryd.checked) (os := os) (X := fun w _ => laidMetH Tryd.prog lk w) false (World.laidAll Tryd.prog os lk) #[.int .i64 0, .int .i64 0] 8 (World.laidAll_os _ _ _) (lk_shaped os _) (by kernel_rfl) (by kernel_rfl) (by kernel_rfl) (lk_met os _)) ?_
 intro W base args ds gs before hval0 hW _ _ hL _
 have hval : ∀ (j : Nat) t v, Tryd.f6.params[j]? = some t → args[j]? = some v → Value.okWide Tryd.prog W .any base t v := hval0
 have hW' := hW
 obtain ⟨p, q, hA0, hV, rfl, hfz, hnd⟩ := hW
 have hA : DataW.TrodAll enc Tryd.prog W 0 (fun _ => true) true Tryd.f6.params.toList args.toList ds p := hA0
 rw [Tryd.params6] at hA hval
 obtain ⟨v0, vs0, d0, ds0, p0, q0, hargs, rfl, rfl, h0, r0⟩ := trodAll_cons hA
 obtain ⟨v1, vs1, d1, ds1, p1, q1, rfl, rfl, rfl, h1, r1⟩ := trodAll_cons r0
 obtain ⟨rfl, rfl, rfl⟩ := trodAll_nil r1
 obtain rfl : args = #[v0, v1] := by cases args; simp_all
 obtain ⟨rfl, rfl⟩ := trodVars_none hV
 have k0 := h0
 have lt0 := lt_of_trod h0
 obtain ⟨a0, rfl, rfl, rfl, w0⟩ := open_int Tryd.underlying3 (hval 0 3 v0 rfl rfl) h0
 have k1 := h1
 have lt1 := lt_of_trod h1
 obtain ⟨a1, rfl, rfl, rfl, w1⟩ := open_int Tryd.underlying3 (hval 1 3 v1 rfl rfl) h1
 clear hA0 hval0
 refine (walk a0 a1 W).mono fun e W' ⟨he, bel⟩ => ?_
 subst he
 exact ⟨_, rfl, _, _, _, [], _, [], hW', trodAll_mk1 (shut_bool Tryd.underlying4 _), (trodAll_cons_mk (Below.trod laidOut (by kernel_rfl) (of_decide_eq_true (by kernel_rfl)) k0 bel lt0) (trodAll_cons_mk (Below.trod laidOut (by kernel_rfl) (of_decide_eq_true (by kernel_rfl)) k1 bel lt1) trodAll_mk0)), rfl, bel.frame _, fun h => by cases h⟩
theorem over : Rows.tapeNobodyRow.holds Tryd.pinned (OpenSpec.ofChange Rows.tapeNobodySpec) :=
 OpenClaim.holds_of_wide 6 Tryd.f6 rfl rfl rfl rfl rfl rfl rfl ⟨rfl, rfl, rfl, rfl, rfl⟩ rfl rfl rfl rfl rfl (by kernel_rfl) Tryd.func6 (by kernel_rfl)
  (of_decide_eq_true (by kernel_rfl)) (by unfold Func.isWrapper; first | (rw [if_pos (by decide +kernel)]; kernel_rfl) | (rw [if_neg (by decide +kernel)]; exact ⟨rfl, rfl⟩))
  (fun os started H enc _ => lifted os started H enc)
theorem card : Claim7.holds Tryd.pinned (.plain (OpenSpec.ofChange Rows.tapeNobodySpec)) Rows.tapeNobodyCard :=
 Claim7.holds_tied_plain_at .later [] [.data, .pinned] true (true, "b2f3a635b080a807049dfd8a3bbcd83cfd1f2faf6c6deaae8cd420e9f63e0053") false
  over (fun _ h => by cases h) (by kernel_rfl) (fun _ h => by cases h) tapeNobody_row_tie rfl ⟨rfl, rfl⟩ (by kernel_rfl) rfl
  (fun f fn hf hfn => by
   obtain rfl : f = 6 := Option.some.inj ((show Tryd.prog.funcNamed "sacristy/sacristylaw10.TapeNobody" = some 6 by kernel_rfl).symm.trans hf) |>.symm
   obtain rfl : fn = Tryd.f6 := (Option.some.inj (Tryd.func6.symm.trans hfn)).symm
   exact ⟨by kernel_rfl, fun j t ht => by
    rw [Tryd.params6] at ht
    have hm : t ∈ [3, 3] := by simpa using Array.mem_of_getElem? ht
    have hall : ([3, 3].all fun u => !Tryd.prog.wantsStandIn u) = true := by kernel_rfl
    exact (show Tryd.prog.wantsStandIn t = false by simpa using List.all_eq_true.1 hall t hm)⟩)
  (by kernel_rfl)
end tapeNobodyP
/-- for every two numbers: a tape of more than 2^16 bytes there is not; one that nobody made, and one without a group, answer nothing, and do not fail; no condition. -/
theorem tapeNobody_holds : Rows.TapeNobodyCardSaid := tapeNobodyP.card
end Go.Proofs.YtlacmkliofnjcaaDoor
