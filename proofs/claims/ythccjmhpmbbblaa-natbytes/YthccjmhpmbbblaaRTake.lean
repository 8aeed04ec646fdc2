/- The document's Take. -/
import Derived.Test.YthccjmhpmbbblaaRAdd
import Derived.Test.YthccjmhpmbbblaaRUp
import Derived.Test.YthccjmhpmbbblaaRInt
import Derived.Test.YthccjmhpmbbblaaNTake
import Derived.Test.YthccjmhpmbbblaaInv
namespace Go.Proofs.Ythccjmhpmbbblaa
open Go.RowKit

theorem exec_index_str {P : Program} {o : Oper} {ρ : Operand → Value} (t : TypeId) (x ix : Operand) (ho : o.op = .index t x ix) (hu : P.underlying t = some .string) (S : ByteArray) (hx : ρ x = .string S)
    (k : IntKind) (i : Nat) (hi : ρ ix = .int k i) (h1 : i < S.size) (w : World) : (execOp ρ o).run P w = .ok (.value (.int .u8 (S[i].toNat : Nat))) w := by
  unfold execOp
  simp only [ho, hx, hi, Sem.run_bind]
  rw [run_index_string w t S k i hu, dif_pos ⟨by omega, by omega⟩]
  rfl
theorem exec_byte_int {o : Oper} {ρ : Operand → Value} (x : Operand) (ho : o.op = .convert 5 3 x) (b : Nat) (hx : ρ x = .int .u8 b) (hb : b < 256) (w : World) :
    (execOp ρ o).run Try.prog w = .ok (.value (.int .i64 b)) w := by
  have h := wrap_i64 b (by omega)
  unfold execOp
  simp only [ho, hx]
  simp [go_sem, Try.underlying5, Try.underlying3, h]
theorem rup8 (X : Nat) (w : World) : Calls Try.prog 24 #[.agg (natC X), .int .i64 8] w fun e w' => e = .returned (.agg (natC (X * 256))) ∧ Below w.heap.size w w' := rup_any X 8 w
theorem rint_nat (b : Nat) (hb : b < 256) (w : World) : Calls Try.prog 18 #[.int .i64 b] w fun e w' => e = .returned (.agg (natC b)) ∧ Below w.heap.size w w' := by
  have h := rint_any b w (by omega)
  rw [Int.toNat_natCast] at h
  exact h

set_option maxRecDepth 100000 in
set_option maxHeartbeats 1000000 in
theorem rtake_good (s : ByteArray) (w : World) (h : s.size ≤ 32) (h0 : 0 < s.size) (hz : s[0] ≠ 0) :
    Calls Try.prog 28 #[.string s] w fun e w' => e = .returned (.tuple #[.agg (natC (natB s.data.toList)), .int .i64 0]) ∧ Below w.heap.size w w' := by
  have h' : ¬ (32 : Int) < s.size := by omega
  have h0' : (0 : Int) < s.size := by omega
  have hz' : ((s[0].toNat : Int) == 0) = false := by
    rw [beq_eq_false_iff_ne]
    intro e
    exact hz (UInt8.toNat_inj.1 (by simpa using e))
  have HH : Hid (s.size ≤ 32) := h
  clear h hz
  go_enter Try.func28, Try.ntmps28
  go_wp2_with (first
    | refine wpList_alloc_row rfl 24 rfl _ zero_nat ?_
    | refine wpList_build_zero rfl 24 rfl _ built_nat ?_
    | refine wpList_store_new rfl 24 _ _ rfl _ rfl rfl _ _ (by exact size_nat) (by rfl) (natC_one _) ?_)
  go_loopg [5] s.size (fun g s5 wr => ∃ k : Nat, k + g = s.size ∧ s5 = .int .i64 k ∧ Row wr w.heap.size (natC 0) 24 ∧ Row wr (w.heap.size + 1) (natC (natB (s.data.toList.take k))) 24 ∧ Below w.heap.size w wr)
  case atStart => exact ⟨0, by omega, rfl, Row.one rfl, Row.here (by simp), below_alloc2 _ _⟩
  case round =>
    obtain ⟨k, hk, rfl, r0, r1, hb⟩ := hrel
    have hle := HH.out
    cases gk with
    | zero =>
      obtain rfl : k = s.size := by omega
      rw [show s.data.toList.take s.size = s.data.toList from List.take_of_length_le (Nat.le_refl _)] at r1
      clear hk
      have hx : ¬ ((s.size : Int) < s.size) := by omega
      go_wp2_with (first
        | refine wpList_loadR rfl 24 _ rfl _ rfl r1 4 _ Try.underlying24 (by exact size_nat) ?_
        | refine wpList_storeR rfl 24 _ _ rfl _ _ rfl rfl r0 (by exact size_nat) (by rfl) (natC_one _) ?_)
      exact ret_row2 rfl _ rfl (r0.setRow _) 4 _ Try.underlying24 (by exact size_nat) rfl _ rfl ⟨rfl, below_setRow hb (by omega) _⟩
    | succ g =>
      have hlt : (k : Int) < s.size := by omega
      have HS : Aside (natB (s.data.toList.take (k + 1)) = natB (s.data.toList.take k) * 256 + (s[k]'(by omega)).toNat) := by
        show _ = _
        rw [List.take_succ_eq_append_getElem (show k < s.data.toList.length by show k < s.size; omega), natB_snoc]
        rfl
      have hks : k < s.size := by omega
      have hb8 := UInt8.toNat_lt (s[k]'hks)
      have HB8 : Aside ((s[k]'hks).toNat < 256) := hb8
      generalize hX : natB (s.data.toList.take k) = X at *
      generalize hbb : (s[k]'hks).toNat = b at *
      clear hb8
      go_wp2
      generalize hzz : (s[0].toNat : Int) = z at *
      refine wp_region_inv0 (by kernel_rfl) (fun d a' w' =>
        (d 12 = true → d 11 = true) ∧ ∃ v6 v7 v29 v30 v31 v32 v33 v34 v35 v36 v37 v38 v39 : Value, a' = ({ tmps := List.toArray ((.string s) :: undef :: (.pointer (some ⟨w.heap.size, 0, none⟩)) :: (.int .i64 0) :: (.pointer (some ⟨w.heap.size + 1, 0, none⟩)) :: (.int .i64 k) :: v6 :: v7 :: (.string s) :: (.int .i64 s.size) :: (.bool false) :: (.bool false) :: (.string s) :: (.int .i64 s.size) :: (.bool true) :: (.bool true) :: (.string s) :: (.int .u8 (z : Int)) :: (.bool false) :: (.bool false) :: (.bool false) :: undef :: (.agg (natC 0)) :: (.int .i64 k) :: (.string s) :: (.int .i64 s.size) :: (.bool true) :: u27 :: u28 :: v29 :: v30 :: v31 :: v32 :: v33 :: v34 :: v35 :: v36 :: v37 :: v38 :: v39 :: u40 :: undef :: []), defers := [] } : Act) ∧
          (d 0 = true → v30 = .agg (natC X)) ∧ (d 1 = true → v31 = .agg (natC (X * 256))) ∧ (d 2 = true → v32 = .string s) ∧ (d 3 = true → v33 = .int .i64 k) ∧ (d 4 = true → v34 = .int .u8 b) ∧ (d 5 = true → v35 = .int .i64 b) ∧ (d 6 = true → v36 = .agg (natC b)) ∧
          (d 7 = true → v37 = .tuple #[.agg (natC (X * 256 + b)), .int .i64 (cN (X * 256) b 256 : Nat)]) ∧ (d 8 = true → v29 = .tuple #[.agg (natC (X * 256 + b)), .int .i64 (cN (X * 256) b 256 : Nat)]) ∧ (d 9 = true → v38 = .agg (natC (X * 256 + b))) ∧ (d 10 = true → v39 = .int .i64 (cN (X * 256) b 256 : Nat)) ∧
          (d 11 = true → ∃ p, v6 = .pointer (some ⟨p, 0, none⟩) ∧ wr.heap.size ≤ p ∧ Row w' p (natC (if d 12 = true then X * 256 + b else 0)) 24) ∧ Below wr.heap.size wr w') (by kernel_rfl) ?start ?step ?fin
      case start => exact ⟨nofun, _, _, _, _, _, _, _, _, _, _, _, _, _, rfl, nofun, nofun, nofun, nofun, nofun, nofun, nofun, nofun, nofun, nofun, nofun, nofun, (Below.refl _ _).drew⟩
      case step =>
        intro i o ho d a' w' ⟨d76, v6, v7, v29, v30, v31, v32, v33, v34, v35, v36, v37, v38, v39, ha, h0, h1, h2, h3, h4, h5, h6, h7, h8, h9, h10, h11, hb'⟩ hd hpre
        subst ha
        match i, ho with
        | 0, ho =>
          have ho' := Option.some.inj ho
          subst ho'
          refine opw_load 24 _ rfl (w.heap.size + 1) rfl (r1.belowAll hb') 4 _ Try.underlying24 size_nat ?_
          exact ⟨d76, v6, v7, v29, _, v31, v32, v33, v34, v35, v36, v37, v38, v39, rfl, fun _ => rfl, h1, h2, h3, h4, h5, h6, h7, h8, h9, h10, h11, hb'⟩
        | 1, ho =>
          have ho' := Option.some.inj ho
          subst ho'
          have e0 := h0 (hpre ⟨0, .data⟩ (by simp) rfl)
          subst e0
          refine opw_call 24 _ _ rfl Try.func24 (by kernel_rfl) #[.agg (natC X), .int .i64 8] rfl ?_
          refine (rup8 X w').mono fun e w2 ⟨he, hb2⟩ => ⟨_, he, d76, v6, v7, v29, _, _, v32, v33, v34, v35, v36, v37, v38, v39, rfl, fun _ => rfl, fun _ => rfl, h2, h3, h4, h5, h6, h7, h8, h9, h10, fun h => ?_, below_on hb' (Nat.le_refl _) hb2⟩
          obtain ⟨p, e, hp, r⟩ := h11 h
          exact ⟨p, e, hp, r.belowAll hb2⟩
        | 2, ho =>
          have ho' := Option.some.inj ho
          subst ho'
          refine opw_value (.string s) rfl ?_
          exact ⟨d76, v6, v7, v29, v30, v31, _, v33, v34, v35, v36, v37, v38, v39, rfl, h0, h1, fun _ => rfl, h3, h4, h5, h6, h7, h8, h9, h10, h11, hb'⟩
        | 3, ho =>
          have ho' := Option.some.inj ho
          subst ho'
          refine opw_value (.int .i64 k) rfl ?_
          exact ⟨d76, v6, v7, v29, v30, v31, v32, _, v34, v35, v36, v37, v38, v39, rfl, h0, h1, h2, fun _ => rfl, h4, h5, h6, h7, h8, h9, h10, h11, hb'⟩
        | 4, ho =>
          have ho' := Option.some.inj ho
          subst ho'
          have e2 := h2 (hpre ⟨2, .data⟩ (by simp) rfl)
          have e3 := h3 (hpre ⟨3, .data⟩ (by simp) rfl)
          subst e2 e3
          refine opw_value (.int .u8 b) ((exec_index_str 9 _ _ rfl Try.underlying9 s rfl .i64 k rfl hks w').trans (by rw [hbb])) ?_
          exact ⟨d76, v6, v7, v29, v30, v31, _, _, _, v35, v36, v37, v38, v39, rfl, h0, h1, fun _ => rfl, fun _ => rfl, fun _ => rfl, h5, h6, h7, h8, h9, h10, h11, hb'⟩
        | 5, ho =>
          have ho' := Option.some.inj ho
          subst ho'
          have e4 := h4 (hpre ⟨4, .data⟩ (by simp) rfl)
          subst e4
          refine opw_value (.int .i64 b) (exec_byte_int _ rfl b rfl HB8.out w') ?_
          exact ⟨d76, v6, v7, v29, v30, v31, v32, v33, _, _, v36, v37, v38, v39, rfl, h0, h1, h2, h3, fun _ => rfl, fun _ => rfl, h6, h7, h8, h9, h10, h11, hb'⟩
        | 6, ho =>
          have ho' := Option.some.inj ho
          subst ho'
          have e5 := h5 (hpre ⟨5, .data⟩ (by simp) rfl)
          subst e5
          refine opw_call 18 _ _ rfl Try.func18 (by kernel_rfl) #[.int .i64 b] rfl ?_
          refine (rint_nat b HB8.out w').mono fun e w2 ⟨he, hb2⟩ => ⟨_, he, d76, v6, v7, v29, v30, v31, v32, v33, v34, _, _, v37, v38, v39, rfl, h0, h1, h2, h3, h4, fun _ => rfl, fun _ => rfl, h7, h8, h9, h10, fun h => ?_, below_on hb' (Nat.le_refl _) hb2⟩
          obtain ⟨p, e, hp, r⟩ := h11 h
          exact ⟨p, e, hp, r.belowAll hb2⟩
        | 7, ho =>
          have ho' := Option.some.inj ho
          subst ho'
          have e1 := h1 (hpre ⟨1, .data⟩ (by simp) rfl)
          have e6 := h6 (hpre ⟨6, .data⟩ (by simp) rfl)
          subst e1 e6
          refine opw_call 9 _ _ rfl Try.func9 (by kernel_rfl) #[.agg (natC (X * 256)), .agg (natC b)] rfl ?_
          refine (radd_any (X * 256) b w').mono fun e w2 ⟨he, hb2⟩ => ⟨_, he, d76, v6, v7, v29, v30, _, v32, v33, v34, v35, _, _, v38, v39, rfl, h0, fun _ => rfl, h2, h3, h4, h5, fun _ => rfl, fun _ => rfl, h8, h9, h10, fun h => ?_, below_on hb' (Nat.le_refl _) hb2⟩
          obtain ⟨p, e, hp, r⟩ := h11 h
          exact ⟨p, e, hp, r.belowAll hb2⟩
        | 8, ho =>
          have ho' := Option.some.inj ho
          subst ho'
          have e7 := h7 (hpre ⟨7, .data⟩ (by simp) rfl)
          subst e7
          refine opw_value (.tuple #[.agg (natC (X * 256 + b)), .int .i64 (cN (X * 256) b 256 : Nat)]) rfl ?_
          exact ⟨d76, v6, v7, _, v30, v31, v32, v33, v34, v35, v36, _, v38, v39, rfl, h0, h1, h2, h3, h4, h5, h6, fun _ => rfl, fun _ => rfl, h9, h10, h11, hb'⟩
        | 9, ho =>
          have ho' := Option.some.inj ho
          subst ho'
          have e8 := h8 (hpre ⟨8, .data⟩ (by simp) rfl)
          subst e8
          refine opw_value (.agg (natC (X * 256 + b))) rfl ?_
          exact ⟨d76, v6, v7, _, v30, v31, v32, v33, v34, v35, v36, v37, _, v39, rfl, h0, h1, h2, h3, h4, h5, h6, h7, fun _ => rfl, fun _ => rfl, h10, h11, hb'⟩
        | 10, ho =>
          have ho' := Option.some.inj ho
          subst ho'
          have e8 := h8 (hpre ⟨8, .data⟩ (by simp) rfl)
          subst e8
          refine opw_value (.int .i64 (cN (X * 256) b 256 : Nat)) rfl ?_
          exact ⟨d76, v6, v7, _, v30, v31, v32, v33, v34, v35, v36, v37, v38, _, rfl, h0, h1, h2, h3, h4, h5, h6, h7, fun _ => rfl, h9, fun _ => rfl, h11, hb'⟩
        | 11, ho =>
          have ho' := Option.some.inj ho
          subst ho'
          have D7 : d 12 = false := by
            cases h7 : d 12 with
            | false => rfl
            | true => have := d76 h7; rw [hd] at this; cases this
          refine opw_alloc 24 rfl _ zero_nat ?_
          refine ⟨fun _ => rfl, _, v7, v29, v30, v31, v32, v33, v34, v35, v36, v37, v38, v39, rfl, h0, h1, h2, h3, h4, h5, h6, h7, h8, h9, h10, fun _ => ⟨w'.heap.size, rfl, hb'.size, ?_⟩, hb'.alloc hb'.size _⟩
          rw [if_neg (by show ¬ d 12 = true; rw [D7]; decide)]
          exact Row.new _ _ _
        | 12, ho =>
          have ho' := Option.some.inj ho
          subst ho'
          have D6 := hpre ⟨11, .data⟩ (by simp) rfl
          have e9 := h9 (hpre ⟨9, .data⟩ (by simp) rfl)
          obtain ⟨p, e, hp, r⟩ := h11 D6
          subst e9 e
          refine opw_store 24 _ _ rfl p (natC (X * 256 + b)) rfl rfl r size_nat rfl (natC_one _) ?_
          exact ⟨fun _ => D6, _, v7, v29, v30, v31, v32, v33, v34, v35, v36, v37, _, v39, rfl, h0, h1, h2, h3, h4, h5, h6, h7, h8, fun _ => rfl, h10, fun _ => ⟨p, rfl, hp, by rw [if_pos (by rfl)]; exact r.setRow _⟩, below_setRow hb' hp _⟩
        | 13, ho =>
          have ho' := Option.some.inj ho
          subst ho'
          have e10 := h10 (hpre ⟨10, .data⟩ (by simp) rfl)
          subst e10
          refine opw_value _ rfl ?_
          exact ⟨d76, v6, _, v29, v30, v31, v32, v33, v34, v35, v36, v37, v38, _, rfl, h0, h1, h2, h3, h4, h5, h6, h7, h8, h9, fun _ => rfl, h11, hb'⟩
        | n + 14, ho => cases ho
      case fin =>
        rintro d a' w' ⟨d76, v6, v7, v29, v30, v31, v32, v33, v34, v35, v36, v37, v38, v39, rfl, h0, h1, h2, h3, h4, h5, h6, h7, h8, h9, h10, h11, hb'⟩ hall
        obtain ⟨p, e2, hp, r2⟩ := h11 (hall 11 (by decide))
        rw [if_pos (hall 12 (by decide))] at r2
        subst e2
        have q0 := r0.belowAll hb'
        have q1 := r1.belowAll hb'
        have b4 := below_on hb (Nat.le_refl _) hb'
        have hlt0 := r0.lt
        have hlt1 := r1.lt
        clear h0 h1 h2 h3 h4 h5 h6 h7 h8 h9 h10 h11 hall d76 hb' r0 r1 hb
        have hzz' : Aside ((s[0].toNat : Int) = z) := hzz
        clear hzz hX hbb
        subst z
        go_wp2_with (first
          | refine wpList_loadR rfl 24 _ rfl _ rfl r2 4 _ Try.underlying24 (by exact size_nat) ?_
          | refine wpList_storeR rfl 24 _ _ rfl _ _ rfl rfl q1 (by exact size_nat) (by rfl) (natC_one _) ?_)
        go_roundg g
        case measure => omega
        case rel => exact ⟨k + 1, by omega, by go_num, q0.setRow_far _ _ (by omega), by rw [HS.out]; exact q1.setRow _, below_setRow b4 (by omega) _⟩

set_option maxRecDepth 100000 in
set_option maxHeartbeats 400000 in
theorem rtake_long (s : ByteArray) (w : World) (h : 32 < s.size) :
    Calls Try.prog 28 #[.string s] w fun e w' => e = .returned (.tuple #[.agg (natC 0), .int .i64 4]) ∧ Below w.heap.size w w' := by
  have h' : (32 : Int) < s.size := by omega
  have rR := Row.new w (natC 0) 24
  go_enter Try.func28, Try.ntmps28
  go_wp2_with (first
    | refine wpList_alloc_row rfl 24 rfl _ zero_nat ?_
    | refine wpList_build_zero rfl 24 rfl _ built_nat ?_
    | refine wpList_storeR rfl 24 _ _ rfl _ _ rfl rfl rR (by exact size_nat) (by rfl) (natC_one _) ?_)
  exact ret_row2 rfl _ rfl (rR.setRow _) 4 _ Try.underlying24 (by exact size_nat) rfl _ rfl ⟨rfl, below_setRow (below_alloc _) (by omega) _⟩
set_option maxRecDepth 100000 in
set_option maxHeartbeats 400000 in
theorem rtake_nought (s : ByteArray) (w : World) (h : s.size ≤ 32) (h0 : 0 < s.size) (hz : s[0] = 0) :
    Calls Try.prog 28 #[.string s] w fun e w' => e = .returned (.tuple #[.agg (natC 0), .int .i64 4]) ∧ Below w.heap.size w w' := by
  have h' : ¬ (32 : Int) < s.size := by omega
  have h0' : (0 : Int) < s.size := by omega
  have hz' : (s[0].toNat : Int) = 0 := by rw [hz]; rfl
  have rR := Row.new w (natC 0) 24
  clear h hz
  go_enter Try.func28, Try.ntmps28
  go_wp2_with (first
    | refine wpList_alloc_row rfl 24 rfl _ zero_nat ?_
    | refine wpList_build_zero rfl 24 rfl _ built_nat ?_
    | refine wpList_storeR rfl 24 _ _ rfl _ _ rfl rfl rR (by exact size_nat) (by rfl) (natC_one _) ?_)
  exact ret_row2 rfl _ rfl (rR.setRow _) 4 _ Try.underlying24 (by exact size_nat) rfl _ rfl ⟨rfl, below_setRow (below_alloc _) (by omega) _⟩
set_option maxRecDepth 100000 in
set_option maxHeartbeats 400000 in
theorem rtake_empty (s : ByteArray) (w : World) (h : s.size = 0) :
    Calls Try.prog 28 #[.string s] w fun e w' => e = .returned (.tuple #[.agg (natC 0), .int .i64 0]) ∧ Below w.heap.size w w' := by
  have h' : (s.size : Int) = 0 := by omega
  go_enter Try.func28, Try.ntmps28
  go_wp2_with (first
    | refine wpList_alloc_row rfl 24 rfl _ zero_nat ?_
    | refine wpList_build_zero rfl 24 rfl _ built_nat ?_
    | refine wpList_store_new rfl 24 _ _ rfl _ rfl rfl _ _ (by exact size_nat) (by rfl) (natC_one _) ?_)
  go_loopg [5] 0 (fun _ s5 wr => s5 = .int .i64 0 ∧ Row wr w.heap.size (natC 0) 24 ∧ Row wr (w.heap.size + 1) (natC 0) 24 ∧ Below w.heap.size w wr)
  case atStart => exact ⟨rfl, Row.one rfl, Row.here (by simp), below_alloc2 _ _⟩
  case round =>
    obtain ⟨rfl, r0, r1, hb⟩ := hrel
    go_wp2_with (first
      | refine wpList_loadR rfl 24 _ rfl _ rfl r1 4 _ Try.underlying24 (by exact size_nat) ?_
      | refine wpList_storeR rfl 24 _ _ rfl _ _ rfl rfl r0 (by exact size_nat) (by rfl) (natC_one _) ?_)
    exact ret_row2 rfl _ rfl (r0.setRow _) 4 _ Try.underlying24 (by exact size_nat) rfl _ rfl ⟨rfl, below_setRow hb (by omega) _⟩
theorem rtake_any (s : ByteArray) (w : World) :
    Calls Try.prog 28 #[.string s] w fun e w' => e = .returned (.tuple #[.agg (natC (takeN s)), .int .i64 (takeE s)]) ∧ Below w.heap.size w w' := by
  unfold takeN takeE
  rcases badB_cases s with ⟨h1, hb⟩ | ⟨h1, hb⟩ | ⟨h1, h2, ⟨h3, hb⟩ | ⟨h3, hb⟩⟩
  · rw [if_pos hb, if_pos hb]; exact rtake_long s w h1
  · rw [if_neg (by rw [hb]; decide), if_neg (by rw [hb]; decide), show natB s.data.toList = 0 by
      have : s.data.toList = [] := List.length_eq_zero_iff.1 h1
      rw [this]; rfl]
    exact rtake_empty s w h1
  · rw [if_pos hb, if_pos hb]; exact rtake_nought s w h1 h2 h3
  · rw [if_neg (by rw [hb]; decide), if_neg (by rw [hb]; decide)]; exact rtake_good s w h1 h2 h3
end Go.Proofs.Ythccjmhpmbbblaa
