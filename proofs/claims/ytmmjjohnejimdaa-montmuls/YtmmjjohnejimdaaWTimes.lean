/- bits.Mul64; the closure of wide.timesLimb, and timesLimb. -/
import Derived.Test.YtmmjjohnejimdaaMixLaws
import Derived.Test.YtmmjjohnejimdaaNAdd
import Derived.Test.YtmmjjohnejimdaaWMath
import Derived.Lib.Mul64
import Derived.Laws.Bits64b
namespace Go.Proofs.Ytmmjjohnejimdaa
open Go.RowKit

theorem maskN (a : Nat) (ha : a < 18446744073709551616) : bits .and .u64 (a : Int) 4294967295 = ((a % 4294967296 : Nat) : Int) := by
  have h := bits_and_u64_nat a 4294967295 ha (by omega)
  have e : a &&& 4294967295 = a % 4294967296 := Nat.and_two_pow_sub_one_eq_mod a 32
  rw [e] at h
  exact h
theorem divN (a : Nat) : (a : Int) / 4294967296 = ((a / 4294967296 : Nat) : Int) := by omega
theorem mulN (a b : Nat) : (a : Int) * (b : Int) = ((a * b : Nat) : Int) := (Int.natCast_mul a b).symm
theorem addN (a b : Nat) : (a : Int) + (b : Int) = ((a + b : Nat) : Int) := (Int.natCast_add a b).symm
theorem wrapN (a : Nat) (ha : a < 18446744073709551616) : IntKind.u64.wrap (a : Int) = (a : Int) := by rw [IntKind.wrap_u64]; omega
theorem wrapM (a : Nat) : IntKind.u64.wrap (a : Int) = ((a % 18446744073709551616 : Nat) : Int) := by rw [IntKind.wrap_u64]; omega

set_option maxHeartbeats 1000000 in
theorem mul64_any (x y : Nat) (hx : x < 18446744073709551616) (hy : y < 18446744073709551616) (w : World) :
    Calls Try.prog 59 #[.int .u64 x, .int .u64 y] w fun e w' => e = .returned (.tuple #[.int .u64 ((x * y / 18446744073709551616 : Nat) : Int), .int .u64 ((x * y % 18446744073709551616 : Nat) : Int)]) ∧ Below w.heap.size w w' := by
  obtain ⟨bd, bt, bw, hhi⟩ := Lib.mul64_hi x y hx hy
  have ba := Lib.half_mul_le (a := x / 4294967296) (b := y / 4294967296) (by omega) (by omega)
  have bb := Lib.half_mul_le (a := x / 4294967296) (b := y % 4294967296) (by omega) (by omega)
  have bc := Lib.half_mul_le (a := x % 4294967296) (b := y / 4294967296) (by omega) (by omega)
  have ba' : x / 4294967296 * (y / 4294967296) < 18446744073709551616 := by omega
  have bb' : x / 4294967296 * (y % 4294967296) < 18446744073709551616 := by omega
  have bc' : x % 4294967296 * (y / 4294967296) < 18446744073709551616 := by omega
  have bh1 : x / 4294967296 * (y / 4294967296) + (x / 4294967296 * (y % 4294967296) + x % 4294967296 * (y % 4294967296) / 4294967296) / 4294967296 < 18446744073709551616 := by omega
  have bh : x / 4294967296 * (y / 4294967296) + (x / 4294967296 * (y % 4294967296) + x % 4294967296 * (y % 4294967296) / 4294967296) / 4294967296 + ((x / 4294967296 * (y % 4294967296) + x % 4294967296 * (y % 4294967296) / 4294967296) % 4294967296 + x % 4294967296 * (y / 4294967296)) / 4294967296 < 18446744073709551616 := by
    have := mul_limbs_le x y hx hy
    omega
  go_enter Try.func59, Try.ntmps59
  go_wp2
  simp only [maskN x hx, maskN y hy, divN, mulN, addN, wrapN _ bd, wrapN _ bb', wrapN _ bt, maskN _ bt, wrapN _ bc', wrapN _ bw, wrapN _ ba', wrapN _ bh1, wrapN _ bh, wrapM (x * y)]
  rw [hhi]
  go_ret2
  exact ⟨rfl, Below.refl _ _⟩

/-- A call of a function that the model carries out in place, in a plain walk. -/
theorem wpList_extern {P : Program} {ops : Array Oper} {rest : List Oper} {o : Oper} {a : Act} {w : World} {Q : Exit → Act → World → Prop} {fn : Func} {en : Array Value → Sem Value} (hgd : o.guard = none)
    (f : FuncId) (args : Array Operand) (ts : Array TypeId) (ho : o.op = .call { callee := .value (.func f), args := args, argTypes := ts })
    (hf : P.funcs[f]? = some fn) (hname : (fn.name == "runtime.NumGoroutine") = false) (hb : fn.body.isNone = true) (hn : Extern.findNext fn = none) (he : Extern.find fn = some en)
    (vs : Array Value) (hv' : args.toList.map a.eval = vs.toList) (v : Value) (hr : (en vs).run P w = .ok v w) (h : wpList P ops Q rest (a.put o.dst v) w) : wpList P ops Q (o :: rest) a w :=
  wpList_plain hgd fun K hK => by
    have hs := step_extern (P := P) (ops := ops) (K := K) (Q := Q) (E := True) hgd f args ts ho hf hname hb hn he vs hv' v hr (hK _ _ h)
    rw [if_pos (by simp [Region.wanted, hgd])] at hs
    exact hs

set_option maxRecDepth 100000 in
set_option maxHeartbeats 1000000 in
theorem take_any (A L M k ga gl gm gc gr : Nat) (w : World) (hk : k < 4) (hL : L < 18446744073709551616) (ra : Row w ga (natC A) 24) (rl : Row w gl #[.int .u64 L] 22) (rm : Row w gm (natC M) 24)
    (rc : Row w gc #[.int .u64 (tlC A L M k : Nat)] 22) (rr : Row w gr (natC ((A * L + M) % 2 ^ (64 * k))) 24) (hne : gr ≠ gc) :
    Calls Try.prog 58 #[.int .i64 k, .pointer (some ⟨ga, 0, none⟩), .pointer (some ⟨gl, 0, none⟩), .pointer (some ⟨gm, 0, none⟩), .pointer (some ⟨gc, 0, none⟩), .pointer (some ⟨gr, 0, none⟩)] w
      fun e w' => e = .returned (.tuple #[]) ∧ Row w' gr (natC ((A * L + M) % 2 ^ (64 * (k + 1)))) 24 ∧ Row w' gc #[.int .u64 (tlC A L M (k + 1) : Nat)] 22 ∧ Kept [gr, gc] w w' := by
  have hla := lm_lt A k
  have hlm := lm_lt M k
  have hc := tlC_lt A L M k hL
  have hx := mul_limbs_le _ _ hla hL
  obtain ⟨t1, t2, t3, t4⟩ := tl_code (lm A k * L) (lm M k) (tlC A L M k) hx hlm hc
  have T : Hid (lm (A * L + M) k = addV (addV (lm A k * L % 18446744073709551616) (lm M k) 0) (tlC A L M k) 0 ∧ tlC A L M (k + 1) = lm A k * L / 18446744073709551616 + addC (lm A k * L % 18446744073709551616) (lm M k) 0 + addC (addV (lm A k * L % 18446744073709551616) (lm M k) 0) (tlC A L M k) 0) :=
    ⟨by rw [t1]; exact tl_limb A L M k, by rw [t3]; exact tl_carry A L M k⟩
  have t4' : lm A k * L / 18446744073709551616 + addC (lm A k * L % 18446744073709551616) (lm M k) 0 + addC (addV (lm A k * L % 18446744073709551616) (lm M k) 0) (tlC A L M k) 0 < 18446744073709551616 := by rw [t3]; exact t4
  clear t1 t3 t4 hx
  go_enter Try.func58, Try.ntmps58
  go_wp2_with fail
  apply wp_region_mix (by kernel_rfl) [] [_, _, _, _, _, _, _, _, _, _] trivial List.nodup_nil
  · intro p
    refine mx_move rfl rfl ?_
    simp only [Act.put, List.setIfInBounds_toArray, List.set_cons_zero, List.set_cons_succ]
    refine mx_val (.pointer (some ⟨ga, k, none⟩)) (exec_index 24 _ _ rfl ga rfl k 4 rfl hk _ Try.underlying24 Try.sizeOf22) ?_
    simp only [Act.put, List.setIfInBounds_toArray, List.set_cons_zero, List.set_cons_succ]
    refine mx_loadc 22 _ rfl ga k rfl ra (by simp) (.int .u64 (lm A k)) (natC_get A k hk) Try.isAgg22 ?_
    simp only [Act.put, List.setIfInBounds_toArray, List.set_cons_zero, List.set_cons_succ]
    refine mx_loadc 22 _ rfl gl 0 rfl rl (by simp) (.int .u64 L) rfl Try.isAgg22 ?_
    simp only [Act.put, List.setIfInBounds_toArray, List.set_cons_zero, List.set_cons_succ]
    refine mx_call 59 _ _ rfl Try.func59 (by kernel_rfl) #[.int .u64 (lm A k), .int .u64 L] rfl _ (mul64_any _ _ hla hL) ?_
    simp only [Act.put, List.setIfInBounds_toArray, List.set_cons_zero, List.set_cons_succ]
    refine mx_move rfl rfl ?_
    simp only [Act.put, List.setIfInBounds_toArray, List.set_cons_zero, List.set_cons_succ]
    refine mx_ext rfl rfl rfl ?_
    simp only [Act.put, List.setIfInBounds_toArray, List.set_cons_zero, List.set_cons_succ]
    refine mx_ext rfl rfl rfl ?_
    simp only [Act.put, List.setIfInBounds_toArray, List.set_cons_zero, List.set_cons_succ]
    refine mx_asg rfl rfl ?_
    simp only [Act.put, List.setIfInBounds_toArray, List.set_cons_zero, List.set_cons_succ]
    refine mx_asg rfl rfl ?_
    simp only [Act.put, List.setIfInBounds_toArray, List.set_cons_zero, List.set_cons_succ]
    refine mx_end ?_
    intro w1 hkw _ _ _
    clear hla
    generalize lm A k * L / 18446744073709551616 = hi at *
    generalize lm A k * L % 18446744073709551616 = lo at *
    have rm1 := hkw.row rm (by simp)
    have rc1 := hkw.row rc (by simp)
    have rr1 := hkw.row rr (by simp)
    have hb1 : Hid (Kept [] w w1) := hkw
    clear ra rl rm rc rr hkw
    have c1 := cell_nat rm1 k (by omega)
    have c2 : w1.cell? ⟨gc, 0, none⟩ = some (.int .u64 (tlC A L M k : Nat)) := rc1.cell 0
    have c3 : w1.cell? ⟨gr, k, none⟩ = some (.int .u64 (lm ((A * L + M) % 2 ^ (64 * k)) k)) := cell_nat rr1 k (by omega)
    have f2 := rc1.frozen 0
    have f3 := rr1.frozen k
    have RR : Aside (Row w1 gr (natC ((A * L + M) % 2 ^ (64 * k))) 24 ∧ Row w1 gc #[.int .u64 (tlC A L M k : Nat)] 22) := ⟨rr1, rc1⟩
    clear rm1 rc1 rr1
    generalize tlC A L M k = c at *
    generalize lm M k = m at *
    generalize lm ((A * L + M) % 2 ^ (64 * k)) k = old at *
    have hne' : gc ≠ gr := fun e => hne e.symm
    have e3 : (hi : Int) + (addC lo m 0 : Nat) < 18446744073709551616 := by omega
    have e4 : (hi : Int) + (addC lo m 0 : Nat) + (addC (addV lo m 0) c 0 : Nat) < 18446744073709551616 := by omega
    go_wp2_with (first
      | refine wpList_extern rfl 60 _ _ rfl Try.func60 (by kernel_rfl) (by kernel_rfl) next_add64 find_add64 #[.int .u64 lo, .int .u64 m, .int .u64 (0 : Nat)] rfl _ (run_add64_nat _ _ _ (by omega) _) ?_
      | refine wpList_extern rfl 60 _ _ rfl Try.func60 (by kernel_rfl) (by kernel_rfl) next_add64 find_add64 #[.int .u64 (addV lo m 0 : Nat), .int .u64 c, .int .u64 (0 : Nat)] rfl _ (run_add64_nat _ _ _ (by omega) _) ?_)
    obtain ⟨rr1, rc1⟩ := RR.out
    obtain ⟨hl, hs⟩ := T.out
    go_end0
    refine ⟨rfl, ?_, ?_, ?_⟩
    · have r := (rr1.setCell k (.int .u64 (addV (addV lo m 0) c 0 : Nat))).setCell_far gc 0 (.int .u64 (↑hi + ↑(addC lo m 0) + ↑(addC (addV lo m 0) c 0))) hne
      rw [natC_limb (A * L + M) k _ (by omega) hl.symm] at r
      exact r
    · have r := (rc1.setCell_far gr k (.int .u64 (addV (addV lo m 0) c 0 : Nat)) hne').setCell 0 (.int .u64 (↑hi + ↑(addC lo m 0) + ↑(addC (addV lo m 0) c 0)))
      rw [hs]
      exact r
    · have h := hb1.out
      refine ⟨h.os, h.tape, h.output, by rw [setCell_size, setCell_size]; exact h.size, fun b hb hm' => ?_⟩
      have h1 : b ≠ gr := fun e => hm' (by rw [e]; simp)
      have h2 : b ≠ gc := fun e => hm' (by rw [e]; simp)
      exact ((heap_setCell_other _ ⟨gc, 0, none⟩ b _ h2).trans (heap_setCell_other _ ⟨gr, k, none⟩ b _ h1)).trans (h.block b hb (by simp))
  · kernel_rfl

set_option maxRecDepth 100000 in
set_option maxHeartbeats 1000000 in
theorem times_any (A L M : Nat) (w : World) (hA : A < 2 ^ 256) (hM : M < 2 ^ 256) (hL : L < 18446744073709551616) :
    Calls Try.prog 38 #[.agg (natC A), .int .u64 L, .agg (natC M)] w fun e w' => e = .returned (.tuple #[.agg (natC (A * L + M)), .int .u64 ((A * L + M) / 2 ^ 256 : Nat)]) ∧ Below w.heap.size w w' := by
  have hmf : ∀ (fn : Fn) (first cap : Array Value) (w : World), (Instr.makeFunc fn first cap).run Try.prog w = .ok (.func fn first cap) w := fun _ _ _ _ => rfl
  have HC : Hid (tlC A L M 4 = (A * L + M) / 2 ^ 256) := tlC_four A L M hA hM
  have HL : Hid (L < 18446744073709551616) := hL
  clear hA hM hL
  go_enter Try.func38, Try.ntmps38
  go_wp2_with (first
    | refine wpList_box_row rfl 24 _ rfl _ rfl ?_
    | refine wpList_alloc_row rfl 24 rfl _ zero_nat ?_)
  go_loopg [13] 4 (fun g s13 wr => ∃ k : Nat, k + g = 4 ∧ s13 = .int .i64 k ∧ Row wr w.heap.size (natC A) 24 ∧ Row wr (w.heap.size + 1) #[.int .u64 L] 22 ∧ Row wr (w.heap.size + 1 + 1) (natC M) 24 ∧ Row wr (w.heap.size + 1 + 1 + 1) (natC 0) 24 ∧
    Row wr (w.heap.size + 1 + 1 + 1 + 1) (natC ((A * L + M) % 2 ^ (64 * k))) 24 ∧ Row wr (w.heap.size + 1 + 1 + 1 + 1 + 1) #[.int .u64 (tlC A L M k : Nat)] 22 ∧ Below w.heap.size w wr)
  case atStart =>
    refine ⟨0, by omega, rfl, (by repeat (first | (refine Row.here ?_; first | (with_reducible rfl) | (simp; done)) | refine Row.alloc ?_ _)), (by repeat (first | (refine Row.here ?_; first | (with_reducible rfl) | (simp; done)) | refine Row.alloc ?_ _)), (by repeat (first | (refine Row.here ?_; first | (with_reducible rfl) | (simp; done)) | refine Row.alloc ?_ _)), (by repeat (first | (refine Row.here ?_; first | (with_reducible rfl) | (simp; done)) | refine Row.alloc ?_ _)), ?_, ?_, (by repeat (first | exact Below.refl _ _ | refine Below.alloc ?_ (by simp <;> omega) _))⟩
    · rw [show (A * L + M) % 2 ^ (64 * 0) = 0 by simp [Nat.mod_one]]
      exact (by repeat (first | (refine Row.here ?_; first | (with_reducible rfl) | (simp; done)) | refine Row.alloc ?_ _))
    · rw [tlC_zero]
      exact (by repeat (first | (refine Row.here ?_; first | (with_reducible rfl) | (simp; done)) | refine Row.alloc ?_ _))
  case round =>
    obtain ⟨k, hk, rfl, r0, r1, r2, r3, r4, r5, hb⟩ := hrel
    cases gk with
    | zero =>
      obtain rfl : k = 4 := by omega
      rw [show (A * L + M) % 2 ^ (64 * 4) = (A * L + M) % 2 ^ 256 from rfl, natC_full] at r4
      rw [HC.out] at r5
      clear hk HC HL
      have hx : ¬ ((4 : Int) < 4) := by omega
      go_wp2_with fail
      apply wp_region_mix (by kernel_rfl) [(w.heap.size + 1 + 1 + 1, 24, natC 0)] [_, _, _, _] ⟨r3, trivial⟩ (by simp)
      · intro p
        refine mx_load 24 _ rfl _ rfl r4 (by simp <;> omega) 4 _ Try.underlying24 size_nat ?_
        simp only [Act.put, List.setIfInBounds_toArray, List.set_cons_zero, List.set_cons_succ]
        refine mx_loadc 22 _ rfl _ 0 rfl r5 (by simp <;> omega) (.int .u64 ((A * L + M) / 2 ^ 256 : Nat)) rfl Try.isAgg22 ?_
        simp only [Act.put, List.setIfInBounds_toArray, List.set_cons_zero, List.set_cons_succ]
        refine mx_put 0 24 _ _ rfl rfl rfl (natC (A * L + M)) rfl (by exact size_nat) (by rfl) (natC_one _) ?_
        simp only [Act.put]
        refine mx_asg rfl rfl ?_
        simp only [Act.put, List.setIfInBounds_toArray, List.set_cons_zero, List.set_cons_succ]
        refine mx_end ?_
        intro w1 hkw hrw _ _
        have r3' : Row w1 (w.heap.size + 1 + 1 + 1) (natC (A * L + M)) 24 := hrw 0 _ rfl
        have hb1 := hb.trans (hkw.below w.heap.size hb.size (by simp; omega))
        go_wp2_with fail
        exact ret_row2 rfl _ rfl r3' 4 _ Try.underlying24 (by exact size_nat) rfl _ rfl ⟨rfl, hb1⟩
      · kernel_rfl
    | succ g =>
      have hlt : (k : Int) < 4 := by omega
      have RR : Aside (Row wr w.heap.size (natC A) 24 ∧ Row wr (w.heap.size + 1) #[.int .u64 L] 22 ∧ Row wr (w.heap.size + 1 + 1) (natC M) 24 ∧ Row wr (w.heap.size + 1 + 1 + 1) (natC 0) 24 ∧
        Row wr (w.heap.size + 1 + 1 + 1 + 1) (natC ((A * L + M) % 2 ^ (64 * k))) 24 ∧ Row wr (w.heap.size + 1 + 1 + 1 + 1 + 1) #[.int .u64 (tlC A L M k : Nat)] 22 ∧ Below w.heap.size w wr) := ⟨r0, r1, r2, r3, r4, r5, hb⟩
      clear r0 r1 r2 r3 r4 r5 hb
      go_wp2_with fail
      obtain ⟨r0, r1, r2, r3, r4, r5, hb⟩ := RR.out
      refine (take_any A L M k _ _ _ _ _ wr (by omega) HL.out r0 r1 r2 r5 r4 (by omega)).mono ?_
      rintro e w2 ⟨rfl, r4', r5', hk2⟩
      have R2 : Aside (Row w2 w.heap.size (natC A) 24 ∧ Row w2 (w.heap.size + 1) #[.int .u64 L] 22 ∧ Row w2 (w.heap.size + 1 + 1) (natC M) 24 ∧ Row w2 (w.heap.size + 1 + 1 + 1) (natC 0) 24 ∧
        Row w2 (w.heap.size + 1 + 1 + 1 + 1) (natC ((A * L + M) % 2 ^ (64 * (k + 1)))) 24 ∧ Row w2 (w.heap.size + 1 + 1 + 1 + 1 + 1) #[.int .u64 (tlC A L M (k + 1) : Nat)] 22 ∧ Below w.heap.size w w2) :=
        ⟨hk2.row r0 (by simp <;> omega), hk2.row r1 (by simp <;> omega), hk2.row r2 (by simp <;> omega), hk2.row r3 (by simp <;> omega), r4', r5', hb.trans (hk2.below w.heap.size hb.size (by simp <;> omega))⟩
      clear r0 r1 r2 r3 r4 r5 hb RR r4' r5' hk2
      go_wp2
      obtain ⟨r0, r1, r2, r3, r4, r5, hb⟩ := R2.out
      go_roundg g
      case measure => omega
      case rel => exact ⟨k + 1, by omega, by go_num, r0, r1, r2, r3, r4, r5, hb⟩
end Go.Proofs.Ytmmjjohnejimdaa
