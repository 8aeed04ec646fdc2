/- The document's Bytes. -/
import Derived.Test.YthccjmhpmbbblaaRLen
import Derived.Test.YthccjmhpmbbblaaNBytes
namespace Go.Proofs.Ythccjmhpmbbblaa
open Go.RowKit

theorem info_u8 : ∃ i, Try.prog.info? 5 = some i ∧ i.zero = some (.int .u8 0) ∧ i.size = 1 ∧ i.bytes = 1 := by
  have h : (Try.prog.info? 5).map (fun i => (i.zero, i.size, i.bytes)) = some (some (.int .u8 0), 1, 1) := by kernel_rfl
  cases hq : Try.prog.info? 5 with
  | none => simp [hq] at h
  | some i =>
    simp [hq] at h
    exact ⟨i, rfl, h.1, h.2.1, h.2.2⟩
/-- Bytes as cells. -/
def u8s (l : List UInt8) : List Value := l.map fun b => .int .u8 (b.toNat : Int)
theorem own_below {w w' : World} {base : Nat} {e : TypeId} {size : Nat} {v : Value} {n : Nat} {xs : List Value} (h : w.ownsRow base e size v n xs) (hb : Below w.heap.size w w') : w'.ownsRow base e size v n xs := by
  refine ⟨h.1, ?_⟩
  rcases h.2 with hn | ⟨g, cap, cur, rfl, hbs, hgg, rest⟩
  · exact .inl hn
  · exact .inr ⟨g, cap, cur, rfl, hbs, (hb.block g (Array.getElem?_eq_some_iff.1 hgg).1).trans hgg, rest⟩
theorem exec_string_own {o : Oper} {ρ : Operand → Value} (x : Operand) (ho : o.op = .convert 53 9 x) (v : Value) (hx : ρ x = v) (base : Nat) (l : List UInt8) (w : World)
    (hown : w.ownsRow base 5 1 v l.length (u8s l)) : (execOp ρ o).run Try.prog w = .ok (.value (.string ⟨l.toArray⟩)) w := by
  unfold execOp
  simp only [ho, hx, Sem.run_bind]
  rcases hown.2 with ⟨rfl, h0⟩ | ⟨g, cap, cur, rfl, _, hgg, hle, _, hcs, htake⟩
  · obtain rfl : l = [] := List.length_eq_zero_iff.1 h0
    rw [run_convert_bytes_string w 53 9 5 none 0 0 under_bytes Try.underlying5 Try.underlying9]
    rfl
  · have h := run_convert_bytes_back (P := Try.prog) w 53 9 5 ⟨g, 0, none⟩ cap l under_bytes Try.underlying5 Try.underlying9 (fun j hj => by
      have ha : (⟨g, 0, none⟩ : Addr).add j = ⟨g, j, none⟩ := by unfold Addr.add; split <;> simp_all
      have hj' : (u8s l)[j]? = some (.int .u8 (l[j].toNat : Int)) := by unfold u8s; rw [List.getElem?_map, List.getElem?_eq_getElem hj]; rfl
      have := hown.cells (g := g) rfl j _ hj'
      exact this)
    rw [h]
    rfl
theorem bitI_byt (A i k : Nat) (hi : 8 * i + k < 256) (hk : k < 8) : bitI A ((8 * i + k : Nat) : Int) = if (byt A i).testBit k = true then 1 else 0 := by
  unfold bitI
  rw [Int.toNat_natCast, byt_bit, decide_eq_true hk, Bool.true_and]
  by_cases h : A.testBit (8 * i + k) = true
  · rw [if_pos h, if_pos ⟨by omega, by omega, h⟩]
  · rw [if_neg h, if_neg (fun x => h x.2.2)]

theorem or_no (x k : Nat) (h : x % 2 ^ k < 9223372036854775808) : bits BinOp.or IntKind.i64 ((x : Int) % 2 ^ k) 0 = ((x % 2 ^ k : Nat) : Int) := by
  rw [show ((x : Int) % 2 ^ k) = ((x % 2 ^ k : Nat) : Int) by simp, show (0 : Int) = ((0 : Nat) : Int) from rfl, i64_or_nat _ _ h (by decide), Nat.or_zero]
theorem or_yes (x k : Nat) (h : x % 2 ^ k < 9223372036854775808) (hk : k < 63) : bits BinOp.or IntKind.i64 ((x : Int) % 2 ^ k) (wrap64 (2 ^ k)) = ((x % 2 ^ k ||| 2 ^ k : Nat) : Int) := by
  rw [← or_bit_i _ _ h hk, IntKind.wrap_i64, show ((x : Int) % 2 ^ k) = ((x % 2 ^ k : Nat) : Int) by simp]
  simp only [wrap64]
set_option maxRecDepth 100000 in
set_option maxHeartbeats 1000000 in
theorem rbytes_any (A : Nat) (w : World) (hA : A < 2 ^ 256) :
    Calls Try.prog 30 #[.agg (natC A)] w fun e w' => e = .returned (.string (bytesOf A)) ∧ Below w.heap.size w w' := by
  have HA : Hid (A < 2 ^ 256) := hA
  have hn := need_le A hA
  have hbl := bitLen_le A 256 hA
  have HN : Hid (need A = (bitLen A + 7) / 8) := rfl
  clear hA
  have rA := Row.new w (natC A) 24
  go_enter Try.func30, Try.ntmps30
  go_wp2_with (first
    | refine wpList_box_row rfl 24 _ rfl _ rfl ?_
    | refine wpList_loadR rfl 24 _ rfl _ rfl rA 4 _ Try.underlying24 (by exact size_nat) ?_)
  refine (rlen_any _ _ HA.out).mono ?_
  rintro e w1 ⟨rfl, hb1⟩
  replace rA := rA.belowAll hb1
  have b1 := below_on (below_alloc _) (Nat.le_refl _) hb1
  clear hb1
  have hq : ((bitLen A : Int) + 7) / 8 = (need A : Int) := by rw [HN.out]; omega
  have hbl' : (bitLen A : Int) ≤ 256 := by omega
  have hn' : (need A : Int) ≤ 32 := by omega
  have HB : Hid (bytesOf A = ⟨(bytesL A (need A)).toArray⟩) := rfl
  clear HN
  go_wp2
  go_loopg [4, 5] (need A) (fun g s4 s5 wr => g ≤ need A ∧ s5 = .int .i64 ((g : Int) - 1) ∧ wr.ownsRow (w.heap.size + 1) 5 1 s4 (need A - g) (u8s ((bytesL A (need A)).take (need A - g))) ∧ Row wr w.heap.size (natC A) 24 ∧ Below w.heap.size w wr)
  case atStart => exact ⟨Nat.le_refl _, rfl, by rw [Nat.sub_self]; exact World.ownsRow_nil _ _ _ _, rA, b1⟩
  case round =>
    obtain ⟨hg, rfl, hown, r0, hb⟩ := hrel
    clear rA b1
    cases gk with
    | zero =>
      rw [Nat.sub_zero, show (bytesL A (need A)).take (need A) = bytesL A (need A) from List.take_of_length_le (by rw [bytesL_length]; exact Nat.le_refl _)] at hown
      clear hg
      have hx : ¬ ((0 : Int) ≤ -1) := by omega
      have hown' : wr.ownsRow (w.heap.size + 1) 5 1 u4 (bytesL A (need A)).length (u8s (bytesL A (need A))) := by rw [bytesL_length]; exact hown
      clear hown
      go_wp2_with (first
        | refine wpList_value rfl _ (exec_string_own _ rfl _ rfl _ (bytesL A (need A)) _ hown') ?_)
      go_ret
      exact ⟨by rw [HB.out]; rfl, hb⟩
    | succ g =>
      rw [show ((g + 1 : Nat) : Int) - 1 = (g : Int) by omega]
      have hg0 : (0 : Int) ≤ (g : Int) := by omega
      have hg32 : g < 32 := by omega
      have HG : Hid (g + 1 ≤ need A) := hg
      clear hg
      go_wp2
      go_loopg [6, 7] 8 (fun m s6 s7 wq => ∃ k : Nat, k + m = 8 ∧ s6 = .int .i64 ((byt A g % 2 ^ k : Nat) : Int) ∧ s7 = .int .i64 k ∧ wq.ownsRow (w.heap.size + 1) 5 1 u4 (need A - (g + 1)) (u8s ((bytesL A (need A)).take (need A - (g + 1)))) ∧ Row wq w.heap.size (natC A) 24 ∧ Below w.heap.size w wq)
      case atStart => exact ⟨0, by omega, by rw [Nat.pow_zero, Nat.mod_one]; rfl, rfl, hown, r0, hb⟩
      case round =>
        obtain ⟨k, hk, rfl, rfl, own2, r2, hb2⟩ := hrel
        clear hown r0 hb
        cases gk with
        | zero =>
          obtain rfl : k = 8 := by omega
          rw [show byt A g % 2 ^ 8 = byt A g from Nat.mod_eq_of_lt (byt_lt A g)]
          have hx : ¬ ((8 : Int) < 8) := by omega
          have hbv := byt_lt A g
          have hand : bits BinOp.and IntKind.i64 (byt A g : Int) 255 = (byt A g : Int) := by
            rw [show (255 : Int) = ((255 : Nat) : Int) from rfl, i64_and_nat _ _ (by omega) (by decide), show 255 = 2 ^ 8 - 1 from rfl, Nat.and_two_pow_sub_one_eq_mod, Nat.mod_eq_of_lt hbv]
          obtain ⟨inf, hi1, hi2, hi3, hi4⟩ := info_u8
          have own3 := own2.alloc (.cells #[.int .u8 (byt A g : Int)] 5)
          have r3 := r2.alloc (.cells #[.int .u8 (byt A g : Int)] 5)
          have hb3 := hb2.alloc hb2.size (.cells #[.int .u8 (byt A g : Int)] 5)
          have rnew := Row.new wr #[.int .u8 (byt A g : Int)] 5
          clear hk
          have hlt2 := r2.lt
          have hnews : ∀ (j : Nat) (u : Value), [Value.int .u8 (byt A g : Int)][j]? = some u → (wr.alloc (.cells #[.int .u8 (byt A g : Int)] 5)).cell? ((⟨wr.heap.size, 0, none⟩ : Addr).add j) = some u := by
            intro j u hu
            have ha : (⟨wr.heap.size, 0, none⟩ : Addr).add j = ⟨wr.heap.size, j, none⟩ := by unfold Addr.add; split <;> simp_all
            rw [ha, rnew.cell]
            simpa using hu
          have HOW : Aside ((wr.alloc (.cells #[.int .u8 (byt A g : Int)] 5)).ownsRow (w.heap.size + 1) 5 1 u4 (need A - (g + 1)) (u8s ((bytesL A (need A)).take (need A - (g + 1))))) := own3
          have R : Aside (Row (wr.alloc (.cells #[.int .u8 (byt A g : Int)] 5)) w.heap.size (natC A) 24 ∧ Below w.heap.size w (wr.alloc (.cells #[.int .u8 (byt A g : Int)] 5))) := ⟨r3, hb3⟩
          clear own2 r2 hb2 own3 r3 hb3 rnew
          have HNS : Aside (∀ (j : Nat) (u : Value), [Value.int .u8 (byt A g : Int)][j]? = some u → (wr.alloc (.cells #[.int .u8 (byt A g : Int)] 5)).cell? ((⟨wr.heap.size, 0, none⟩ : Addr).add j) = some u) := hnews
          clear hnews
          go_wp2_with (first
            | (at_builtin; refine wpList_append_own _ rfl _ _ 53 rfl (w.heap.size + 1) 5 inf (.int .u8 0) 1 1 under_bytes hi1 hi2 hi3 hi4 rfl (by decide) u4 (need A - (g + 1)) _ rfl HOW.out ⟨wr.heap.size, 0, none⟩ 1 1 [.int .u8 (byt A g : Int)] rfl rfl HNS.out (by simp [Value.oneCell']) (by unfold maxLen; omega) (by omega) (by simp; omega) ?_; intro v' w5 hown5 hgrow _))
          obtain ⟨r3, hb3⟩ := R.out
          have own6 := HOW.out
          have hg' := HG.out
          go_roundg g
          case measure => omega
          case rel =>
            have hblk : ∀ q, u4.ownBlock = some q → w.heap.size + 1 ≤ q := fun q hq => (own6.lt q hq).1
            refine ⟨by omega, rfl, ?_, ?_, hb3.grown hgrow hb3.size (fun q hq => by have := hblk q hq; omega)⟩
            · rw [show need A - g = need A - (g + 1) + 1 by omega]
              rw [List.take_succ_eq_append_getElem (by rw [bytesL_length]; omega), bytesL_get]
              have e1 : need A - 1 - (need A - (g + 1)) = g := by omega
              rw [e1]
              have e2 : u8s (List.take (need A - (g + 1)) (bytesL A (need A)) ++ [UInt8.ofNat (byt A g)]) = u8s (List.take (need A - (g + 1)) (bytesL A (need A))) ++ [.int .u8 (byt A g : Int)] := by
                unfold u8s
                rw [List.map_append, List.map_singleton, UInt8.toNat_ofNat_of_lt' (byt_lt A g)]
              rw [e2]
              exact hown5
            · have := hgrow.block w.heap.size r3.lt (fun e => by have := hblk _ e.symm; omega)
              exact this.trans r3
        | succ m =>
          have hk8 : (k : Int) < 8 := by omega
          have hg32' : (g : Int) < 32 := by omega
          have HI := bitI_byt A g k (by omega) (by omega)
          rw [show ((8 * g + k : Nat) : Int) = 8 * (g : Int) + (k : Int) by omega] at HI
          have hbv := byt_lt A g
          have hm : byt A g % 2 ^ k < 9223372036854775808 := Nat.lt_of_le_of_lt (Nat.mod_le _ _) (Nat.lt_of_lt_of_le hbv (by decide))
          have HM : Hid (byt A g % 2 ^ k < 9223372036854775808) := hm
          have hno := mod_snoc_no (byt A g) k
          have hor := mod_snoc_or (byt A g) k
          have R : Aside (wr.ownsRow (w.heap.size + 1) 5 1 u4 (need A - (g + 1)) (u8s ((bytesL A (need A)).take (need A - (g + 1)))) ∧ Row wr w.heap.size (natC A) 24 ∧ Below w.heap.size w wr) := ⟨own2, r2, hb2⟩
          clear hb2 own2 hm hbv
          cases hbit : (byt A g).testBit k
          · rw [hbit] at HI
            simp only [Bool.false_eq_true, if_false] at HI
            have HJ : Aside (bitI A (8 * (g : Int) + (k : Int)) = 0) := HI
            clear HI
            have HO : Aside (byt A g % 2 ^ (k + 1) = byt A g % 2 ^ k) := hno hbit
            clear hno hor hbit
            go_wp2_with (first
              | refine wpList_loadR rfl 24 _ rfl _ rfl r2 4 _ Try.underlying24 (by exact size_nat) ?_
              | (go_at_call 22; refine (rbit_any A (8 * (g : Int) + (k : Int)) _).mono ?_; rintro e w5 ⟨rfl, hb5⟩; rw [HJ.out]))
            obtain ⟨own5, r5, hb6⟩ := R.out
            go_roundg m
            case measure => omega
            case rel => exact ⟨k + 1, by omega, by rw [HO.out, or_no _ _ HM.out], by go_num, own_below own5 hb5, r5.belowAll hb5, below_on hb6 (Nat.le_refl _) hb5⟩
          · rw [hbit] at HI
            simp only [if_true] at HI
            have HJ : Aside (bitI A (8 * (g : Int) + (k : Int)) = 1) := HI
            clear HI
            have HO : Aside (byt A g % 2 ^ k ||| 2 ^ k = byt A g % 2 ^ (k + 1)) := hor hbit
            clear hno hor hbit
            go_wp2_with (first
              | refine wpList_loadR rfl 24 _ rfl _ rfl r2 4 _ Try.underlying24 (by exact size_nat) ?_
              | (go_at_call 22; refine (rbit_any A (8 * (g : Int) + (k : Int)) _).mono ?_; rintro e w5 ⟨rfl, hb5⟩; rw [HJ.out]))
            obtain ⟨own5, r5, hb6⟩ := R.out
            go_roundg m
            case measure => omega
            case rel => exact ⟨k + 1, by omega, by rw [← HO.out, or_yes _ _ HM.out (by omega)], by go_num, own_below own5 hb5, r5.belowAll hb5, below_on hb6 (Nat.le_refl _) hb5⟩
end Go.Proofs.Ythccjmhpmbbblaa
