/- The document's Add: the sum, bit by bit. -/
import Derived.Test.YtojobffihlmfgaaGA
import Derived.Deep.DeepCutAuto
import Derived.Deep.RegionLaw
namespace Go.Proofs.Ytojobffihlmfgaa
open Go.RowKit
set_option maxRecDepth 100000 in
set_option maxHeartbeats 1000000 in
theorem radd_any (A B : Nat) (w : World) :
  Calls Try.prog 38 #[.agg (natC A), .agg (natC B)] w fun e w' => e = .returned (.tuple #[.agg (natC (A + B)), .int .i64 (cN A B 256 : Nat)]) ∧ Below w.heap.size w w' := by
 go_enter Try.func38, Try.ntmps38
 go_wp2_with (first
  | refine wpList_box_row rfl 51 _ rfl _ rfl ?_
  | refine wpList_alloc_row rfl 51 rfl _ zero_nat ?_)
 have hW : (((w.alloc (Obj.cells (natC A) 51)).alloc (Obj.cells (natC B) 51)).alloc (Obj.cells (natC 0) 51)).heap.size = w.heap.size + 3 := by simp
 have rA : Row (((w.alloc (Obj.cells (natC A) 51)).alloc (Obj.cells (natC B) 51)).alloc (Obj.cells (natC 0) 51)) w.heap.size (natC A) 51 := ((Row.here rfl).alloc _).alloc _
 have rB : Row (((w.alloc (Obj.cells (natC A) 51)).alloc (Obj.cells (natC B) 51)).alloc (Obj.cells (natC 0) 51)) (w.heap.size + 1) (natC B) 51 := (Row.here (by simp)).alloc _
 have rR : Row (((w.alloc (Obj.cells (natC A) 51)).alloc (Obj.cells (natC B) 51)).alloc (Obj.cells (natC 0) 51)) (w.heap.size + 1 + 1) (natC 0) 51 := Row.here (by simp)
 have bW : Below w.heap.size w (((w.alloc (Obj.cells (natC A) 51)).alloc (Obj.cells (natC B) 51)).alloc (Obj.cells (natC 0) 51)) := (((Below.refl _ _).alloc (Nat.le_refl _) _).alloc (by simp) _).alloc (by simp; omega) _
 generalize (((w.alloc (Obj.cells (natC A) 51)).alloc (Obj.cells (natC B) 51)).alloc (Obj.cells (natC 0) 51)) = W at *
 refine wp_region_inv0 (by kernel_rfl) (fun d a' w' =>
  (d 6 = false ∧ d 7 = false ∧ (d 3 = true → d 2 = true) ∧ ∃ vp vq va vx vb vy : Value, a' = ({ tmps := List.toArray ((.agg (natC A)) :: (.agg (natC B)) :: (.pointer (some ⟨w.heap.size, 0, none⟩)) :: (.pointer (some ⟨w.heap.size + 1, 0, none⟩)) :: (.pointer (some ⟨w.heap.size + 1 + 1, 0, none⟩)) :: (.int .i64 0) :: vp :: vq :: undef :: undef :: undef :: va :: vx :: vb :: vy :: undef :: undef :: undef :: undef :: undef :: undef :: undef :: undef :: undef :: undef :: undef :: undef :: undef :: undef :: undef :: undef :: undef :: undef :: undef :: undef :: undef :: undef :: undef :: undef :: undef :: undef :: undef :: undef :: undef :: undef :: undef :: undef :: undef :: undef :: undef :: undef :: undef :: undef :: undef :: undef :: undef :: undef :: []), defers := [] } : Act) ∧
   (d 0 = true → va = .agg (natC A)) ∧ (d 1 = true → vx = .agg (bitC A)) ∧ (d 2 = true → vb = .agg (natC B)) ∧ (d 3 = true → vy = .agg (bitC B)) ∧
   (d 4 = true → ∃ p, vp = .pointer (some ⟨p, 0, none⟩) ∧ w.heap.size + 3 ≤ p ∧ Row w' p (bitC 0) 97) ∧ (d 5 = true → ∃ q, vq = .pointer (some ⟨q, 0, none⟩) ∧ w.heap.size + 3 ≤ q ∧ Row w' q (bitC 0) 97) ∧
   (d 4 = true → d 5 = true → vp ≠ vq) ∧ Below (w.heap.size + 3) W w') ∨
  ((∀ j, j < 7 → d j = true) ∧ ∃ p q va vx vb vy, ∃ vp vq : Value, vp = .pointer (some ⟨p, 0, none⟩) ∧ vq = .pointer (some ⟨q, 0, none⟩) ∧ va = .agg (natC A) ∧ vx = .agg (bitC A) ∧ vb = .agg (natC B) ∧ vy = .agg (bitC B) ∧ a' = ({ tmps := List.toArray ((.agg (natC A)) :: (.agg (natC B)) :: (.pointer (some ⟨w.heap.size, 0, none⟩)) :: (.pointer (some ⟨w.heap.size + 1, 0, none⟩)) :: (.pointer (some ⟨w.heap.size + 1 + 1, 0, none⟩)) :: (.int .i64 0) :: vp :: vq :: undef :: undef :: undef :: va :: vx :: vb :: vy :: undef :: undef :: undef :: undef :: undef :: undef :: undef :: undef :: undef :: undef :: undef :: undef :: undef :: undef :: undef :: undef :: undef :: undef :: undef :: undef :: undef :: undef :: undef :: undef :: undef :: undef :: undef :: undef :: undef :: undef :: undef :: undef :: undef :: undef :: undef :: undef :: undef :: undef :: undef :: undef :: undef :: undef :: []), defers := [] } : Act) ∧
   w.heap.size + 3 ≤ p ∧ w.heap.size + 3 ≤ q ∧ p ≠ q ∧ Row w' p (bitC A) 97 ∧ Row w' q (if d 7 = true then bitC B else bitC 0) 97 ∧ Below (w.heap.size + 3) W w')) (by kernel_rfl) ?start ?step ?fin
 case start => exact .inl ⟨rfl, rfl, nofun, undef, undef, undef, undef, undef, undef, rfl, nofun, nofun, nofun, nofun, nofun, nofun, nofun, (Below.refl _ _).drew⟩
 case step =>
  intro i o ho d a' w' hI hd hpre
  rcases hI with ⟨d6, d7, d32, vp, vq, va, vx, vb, vy, rfl, h0, h1, h2, h3, h4, h5, h6, hb⟩ | ⟨hall, p, q, va, vx, vb, vy, vp, vq, rfl, rfl, rfl, rfl, rfl, rfl, rfl, hp, hq, hne, rp, rq, hb⟩
  ·have hsz : w.heap.size + 3 ≤ w'.heap.size := by have := hb.size; omega
   match i, ho with
   | 0, ho =>
    have ho' := Option.some.inj ho
    subst ho'
    refine opw_load 51 _ rfl w.heap.size rfl (rA.below hb (by omega)) 4 _ Try.underlying51 size_nat ?_
    exact .inl ⟨d6, d7, d32, vp, vq, _, vx, vb, vy, rfl, fun _ => rfl, h1, h2, h3, h4, h5, h6, hb⟩
   | 1, ho =>
    have ho' := Option.some.inj ho
    subst ho'
    have e0 := h0 (hpre ⟨0, .data⟩ (by simp) rfl)
    subst e0
    refine opw_call 62 _ _ rfl Try.func62 (by kernel_rfl) #[.agg (natC A)] rfl ?_
    refine (rof_any A w').mono fun e w2 ⟨he, hb2⟩ => ⟨_, he, .inl ⟨d6, d7, d32, vp, vq, _, _, vb, vy, rfl, fun _ => rfl, fun _ => rfl, h2, h3, fun h => ?_, fun h => ?_, h6, hb.trans (hb2.mono hsz)⟩⟩
    ·obtain ⟨p, e, hp, r⟩ := h4 h; exact ⟨p, e, hp, r.belowAll hb2⟩
    ·obtain ⟨p, e, hp, r⟩ := h5 h; exact ⟨p, e, hp, r.belowAll hb2⟩
   | 2, ho =>
    have ho' := Option.some.inj ho
    subst ho'
    refine opw_load 51 _ rfl (w.heap.size + 1) rfl (rB.below hb (by omega)) 4 _ Try.underlying51 size_nat ?_
    exact .inl ⟨d6, d7, fun _ => rfl, vp, vq, va, vx, _, vy, rfl, h0, h1, fun _ => rfl, h3, h4, h5, h6, hb⟩
   | 3, ho =>
    have ho' := Option.some.inj ho
    subst ho'
    have D2 := hpre ⟨2, .data⟩ (by simp) rfl
    have e0 := h2 D2
    subst e0
    refine opw_call 62 _ _ rfl Try.func62 (by kernel_rfl) #[.agg (natC B)] rfl ?_
    refine (rof_any B w').mono fun e w2 ⟨he, hb2⟩ => ⟨_, he, .inl ⟨d6, d7, fun _ => D2, vp, vq, va, vx, _, _, rfl, h0, h1, fun _ => rfl, fun _ => rfl, fun h => ?_, fun h => ?_, h6, hb.trans (hb2.mono hsz)⟩⟩
    ·obtain ⟨p, e, hp, r⟩ := h4 h; exact ⟨p, e, hp, r.belowAll hb2⟩
    ·obtain ⟨p, e, hp, r⟩ := h5 h; exact ⟨p, e, hp, r.belowAll hb2⟩
   | 4, ho =>
    have ho' := Option.some.inj ho
    subst ho'
    refine opw_alloc 97 rfl _ zero_bits ?_
    refine .inl ⟨d6, d7, d32, _, vq, va, vx, vb, vy, rfl, h0, h1, h2, h3, fun _ => ⟨w'.heap.size, rfl, hsz, Row.new _ _ _⟩, fun h => ?_, fun _ h => ?_, hb.alloc hsz _⟩
    ·obtain ⟨p, e, hp, r⟩ := h5 h; exact ⟨p, e, hp, r.alloc _⟩
    ·obtain ⟨p, e, hp, r⟩ := h5 h
     subst e
     intro e
     have hlt := r.lt
     simp at e
     first | done | omega
   | 5, ho =>
    have ho' := Option.some.inj ho
    subst ho'
    refine opw_alloc 97 rfl _ zero_bits ?_
    refine .inl ⟨d6, d7, d32, vp, _, va, vx, vb, vy, rfl, h0, h1, h2, h3, fun h => ?_, fun _ => ⟨w'.heap.size, rfl, hsz, Row.new _ _ _⟩, fun h _ => ?_, hb.alloc hsz _⟩
    ·obtain ⟨p, e, hp, r⟩ := h4 h; exact ⟨p, e, hp, r.alloc _⟩
    ·obtain ⟨p, e, hp, r⟩ := h4 h
     subst e
     intro e
     have hlt := r.lt
     simp at e
     first | done | omega
   | 6, ho =>
    have ho' := Option.some.inj ho
    subst ho'
    have D0 := hpre ⟨0, .phase⟩ (by simp) rfl
    have D1 := hpre ⟨1, .data⟩ (by simp) rfl
    have D3 := hpre ⟨3, .chain⟩ (by simp) rfl
    have D4 := hpre ⟨4, .data⟩ (by simp) rfl
    have D5 := hpre ⟨5, .phase⟩ (by simp) rfl
    have D2 := d32 D3
    obtain ⟨p, ep, hp, rp⟩ := h4 D4
    obtain ⟨q, eq, hq, rq⟩ := h5 D5
    have hne := h6 D4 D5
    have e0 := h0 D0; have e1 := h1 D1; have e2 := h2 D2; have e3 := h3 D3
    subst ep eq e0 e1 e2 e3
    have hpq : p ≠ q := fun e => hne (by rw [e])
    refine opw_store 97 _ _ rfl p (bitC A) rfl rfl rp (by rw [bitC_size]; exact size_bits) (by simp only [bitC_size]) (bitC_one _) ?_
    refine .inr ⟨fun j hj => ?_, p, q, _, _, _, _, _, _, rfl, rfl, rfl, rfl, rfl, rfl, rfl, hp, hq, hpq, rp.setRow _, ?_, below_setRow hb hp _⟩
    ·match j, hj with
     | 0, _ => exact D0
     | 1, _ => exact D1
     | 2, _ => exact D2
     | 3, _ => exact D3
     | 4, _ => exact D4
     | 5, _ => exact D5
     | 6, _ => rfl
    ·have hr := rq.setRow_far p (bitC A) (Ne.symm hpq)
     rw [if_neg (by show ¬ d 7 = true; rw [d7]; decide)]
     exact hr
   | 7, ho =>
    have ho' := Option.some.inj ho
    subst ho'
    have D6 := hpre ⟨6, .chain⟩ (by simp) rfl
    rw [d6] at D6
    cases D6
   | n + 8, ho => cases ho
  ·match i, ho with
   | 0, _ => rw [hall 0 (by omega)] at hd; cases hd
   | 1, _ => rw [hall 1 (by omega)] at hd; cases hd
   | 2, _ => rw [hall 2 (by omega)] at hd; cases hd
   | 3, _ => rw [hall 3 (by omega)] at hd; cases hd
   | 4, _ => rw [hall 4 (by omega)] at hd; cases hd
   | 5, _ => rw [hall 5 (by omega)] at hd; cases hd
   | 6, _ => rw [hall 6 (by omega)] at hd; cases hd
   | 7, ho =>
    have ho' := Option.some.inj ho
    subst ho'
    rw [if_neg (by rw [hd]; decide)] at rq
    refine opw_store 97 _ _ rfl q (bitC B) rfl rfl rq (by rw [bitC_size]; exact size_bits) (by simp only [bitC_size]) (bitC_one _) ?_
    exact .inr ⟨fun j hj => by show (j == 7 || d j) = true; rw [hall j hj, Bool.or_true], p, q, _, _, _, _, _, _, rfl, rfl, rfl, rfl, rfl, rfl, rfl, hp, hq, hne, rp.setRow_far _ _ hne, (by rw [if_pos (by rfl)]; exact rq.setRow _), below_setRow hb hq _⟩
   | n + 8, ho => cases ho
 case fin =>
  intro d a' w' hI hall
  rcases hI with ⟨d6, _⟩ | ⟨_, p, q, va, vx, vb, vy, vp, vq, rfl, rfl, rfl, rfl, rfl, rfl, rfl, hp, hq, hne, rp, rq, hb⟩
  ·rw [hall 6 (by decide)] at d6; cases d6
  rw [hall 7 (by decide), if_pos rfl] at rq
  have hsz := hb.size
  have bw := bW.trans (hb.mono (by omega))
  have rR' := rR.below hb (by omega)
  go_wp2_with (first
   | refine wpList_build_zero rfl 97 rfl _ built_bits ?_
   | refine wpList_alloc_row rfl 97 rfl _ zero_bits ?_
   | refine wpList_store_new rfl 97 _ _ rfl _ rfl rfl _ _ (by rw [bitC_size]; exact size_bits) (by simp only [bitC_size]) (bitC_one _) ?_)
  have rr := Row.new w' (bitC 0) 97
  have rp' := rp.alloc (.cells (bitC 0) 97)
  have rq' := rq.alloc (.cells (bitC 0) 97)
  have rR2 := rR'.alloc (.cells (bitC 0) 97)
  have bw2 := bw.alloc (by omega) (.cells (bitC 0) 97)
  have hpr := rp.lt
  have hqr := rq.lt
  generalize w'.alloc (.cells (bitC 0) 97) = w1 at *
  generalize w'.heap.size = r at *
  clear rp rq rR' bw hb rA rB rR bW
  go_loopg [9, 10] 256 (fun g s9 s10 wr => ∃ k : Nat, k + g = 256 ∧ s9 = .bool (carry A B k) ∧ s10 = .int .i64 k ∧ Row wr p (bitC A) 97 ∧ Row wr q (bitC B) 97 ∧ Row wr r (bitC ((A + B) % 2 ^ k)) 97 ∧ Row wr (w.heap.size + 1 + 1) (natC 0) 51 ∧ Below w.heap.size w wr)
  case atStart => exact ⟨0, by omega, by rw [carry_zero], rfl, rp', rq', by rw [Nat.pow_zero, Nat.mod_one]; exact rr, rR2, bw2⟩
  case round =>
   obtain ⟨k, hk, rfl, rfl, r1, r2, r3, r4, hb⟩ := hrel
   clear rr rp' rq' rR2 bw2
   cases gk with
   | zero =>
    obtain rfl : k = 256 := by omega
    rw [bitC_full] at r3
    clear hk
    have hx : ¬ ((256 : Int) < 256) := by omega
    have hcn : cN A B 256 = if carry A B 256 = true then 1 else 0 := rfl
    have HC : Hid (cN A B 256 = if carry A B 256 = true then 1 else 0) := hcn
    clear hcn
    cases hc : carry A B 256
    all_goals
     rw [hc] at HC
     clear hc
     go_wp2_with (first
      | refine wpList_load_row rfl 97 _ rfl _ rfl 97 _ (0, 0) _ r3 Try.underlying97 rfl (by rw [bitC_size]; exact size_bits) ?_
      | (go_at_call 63; refine (rnat_any _ _).mono ?_; rintro e w2 ⟨rfl, hb2⟩; have r5 := r4.belowAll hb2; have b5 := hb.trans (hb2.mono (by have := hb.size; omega)))
      | refine wpList_store_row rfl 51 _ _ rfl _ (natC (A + B)) rfl rfl 51 (natC 0) r5 (by exact size_nat) (by rfl) (natC_one _) ?_)
     all_goals exact ret_row2 rfl _ rfl (r5.setRow _) 4 _ Try.underlying51 (by exact size_nat) rfl _ rfl ⟨by rw [HC.out]; rfl, below_setRow b5 (by omega) _⟩
   | succ g =>
    have hlt : (k : Int) < 256 := by omega
    have hc1 := cell_bits r1 k (by omega)
    have hc2 := cell_bits r2 k (by omega)
    have hc3 := cell_bits r3 k (by omega)
    have hf3 := r3.frozen k
    have hbit := add_bit A B k
    have hcs := carry_succ A B k
    generalize A.testBit k = x at *
    generalize B.testBit k = y at *
    generalize carry A B k = c at *
    have R : Aside ((A + B).testBit k = ((x != y) != c) ∧ carry A B (k + 1) = (x && y || c && (x || y)) ∧ Row wr p (bitC A) 97 ∧ Row wr q (bitC B) 97 ∧ Row wr r (bitC ((A + B) % 2 ^ k)) 97 ∧ Row wr (w.heap.size + 1 + 1) (natC 0) 51 ∧ Below w.heap.size w wr) := ⟨hbit, hcs, r1, r2, r3, r4, hb⟩
    clear hbit hcs r1 r2 r3 r4 hb
    cases x <;> cases y <;> cases c
    all_goals
     go_wp2
     go_region
     go_wp2
     obtain ⟨hbit, hcs, r1, r2, r3, r4, hb⟩ := R.out
     go_roundg g
     case measure => omega
     case rel => exact ⟨k + 1, by omega, by rw [hcs]; rfl, by go_num, (r1.setCell_far _ _ _ (by omega)).drew, (r2.setCell_far _ _ _ (by omega)).drew, by rw [← bitC_snoc (A + B) k _ hbit.symm]; exact (r3.setCell _ _).drew, (r4.setCell_far _ _ _ (by omega)).drew, (below_setCell hb (by omega) _ _).drew⟩
end Go.Proofs.Ytojobffihlmfgaa
/- The document's Int: an int as a natural. -/
namespace Go.Proofs.Ytojobffihlmfgaa
open Go.RowKit
set_option maxRecDepth 100000 in
set_option maxHeartbeats 400000 in
theorem rint_no (n : Int) (w : World) (h : n ≤ 0) :
  Calls Try.prog 40 #[.int .i64 n] w fun e w' => e = .returned (.agg (natC n.toNat)) ∧ Below w.heap.size w w' := by
 have hg : ¬ (0 < n) := by omega
 have hd : decide (0 < n) = false := by simpa using hg
 go_enter Try.func40, Try.ntmps40
 go_wp2_with (first
  | refine wpList_alloc_row rfl 51 rfl _ zero_nat ?_
  | refine wpList_alloc_row rfl 97 rfl _ zero_bits ?_
  | refine wpList_build_zero rfl 97 rfl _ built_bits ?_
  | refine wpList_store_new rfl 97 _ _ rfl _ rfl rfl _ _ (by rw [bitC_size]; exact size_bits) (by simp only [bitC_size]) (bitC_one _) ?_)
 go_loopg [4] 0 (fun g s4 wr => s4 = .int .i64 0 ∧ Row wr (w.heap.size + 1) (bitC 0) 97 ∧ Row wr w.heap.size (natC 0) 51 ∧ Below w.heap.size w wr)
 case atStart => exact ⟨rfl, Row.here (by simp), Row.one rfl, below_alloc2 _ _⟩
 case round =>
  obtain ⟨rfl, r0, r1, hb⟩ := hrel
  go_wp2_with (first
   | refine wpList_loadR rfl 97 _ rfl _ rfl r0 256 _ Try.underlying97 (by rw [bitC_size]; exact size_bits) ?_
   | (go_at_call 63; refine (rnat_any _ _).mono ?_; rintro e w2 ⟨rfl, hb2⟩; have r5 := r1.belowAll hb2; have b5 := below_on hb (Nat.le_refl _) hb2)
   | refine wpList_storeR rfl 51 _ _ rfl _ _ rfl rfl r5 (by exact size_nat) (by simp only [natC_size]) (natC_one _) ?_)
  rw [show n.toNat = 0 by omega]
  exact ret_row rfl _ rfl (r5.setRow _) 4 _ Try.underlying51 (by exact size_nat) rfl ⟨rfl, below_setRow b5 (by omega) _⟩
set_option maxRecDepth 100000 in
set_option maxHeartbeats 400000 in
theorem rint_yes (N : Nat) (w : World) (h0 : 0 < N) (h1 : N < 9223372036854775808) :
  Calls Try.prog 40 #[.int .i64 N] w fun e w' => e = .returned (.agg (natC N)) ∧ Below w.heap.size w w' := by
 have hg : (0 : Int) < N := by omega
 have H1 : Hid (N < 9223372036854775808) := h1
 clear h1 h0
 go_enter Try.func40, Try.ntmps40
 go_wp2_with (first
  | refine wpList_alloc_row rfl 51 rfl _ zero_nat ?_
  | refine wpList_alloc_row rfl 97 rfl _ zero_bits ?_
  | refine wpList_build_zero rfl 97 rfl _ built_bits ?_
  | refine wpList_store_new rfl 97 _ _ rfl _ rfl rfl _ _ (by rw [bitC_size]; exact size_bits) (by simp only [bitC_size]) (bitC_one _) ?_)
 go_loopg [4] 63 (fun g s4 wr => ∃ k : Nat, k + g = 63 ∧ s4 = .int .i64 k ∧ Row wr (w.heap.size + 1) (bitC (N % 2 ^ k)) 97 ∧ Row wr w.heap.size (natC 0) 51 ∧ Below w.heap.size w wr)
 case atStart => exact ⟨0, by omega, rfl, by rw [Nat.pow_zero, Nat.mod_one]; exact Row.here (by simp), Row.one rfl, below_alloc2 _ _⟩
 case round =>
  obtain ⟨k, hk, rfl, r0, r1, hb⟩ := hrel
  cases gk with
  | zero =>
   obtain rfl : k = 63 := by omega
   rw [Nat.mod_eq_of_lt (show N < 2 ^ 63 from H1.out)] at r0
   clear hk
   have hx : ¬ ((63 : Int) < 63) := by omega
   go_wp2_with (first
    | refine wpList_loadR rfl 97 _ rfl _ rfl r0 256 _ Try.underlying97 (by rw [bitC_size]; exact size_bits) ?_
    | (go_at_call 63; refine (rnat_any _ _).mono ?_; rintro e w2 ⟨rfl, hb2⟩; have r5 := r1.belowAll hb2; have b5 := below_on hb (Nat.le_refl _) hb2)
    | refine wpList_storeR rfl 51 _ _ rfl _ _ rfl rfl r5 (by exact size_nat) (by simp only [natC_size]) (natC_one _) ?_)
   exact ret_row rfl _ rfl (r5.setRow _) 4 _ Try.underlying51 (by exact size_nat) rfl ⟨rfl, below_setRow b5 (by omega) _⟩
  | succ g =>
   have hlt : (k : Int) < 63 := by omega
   have hlt' : (k : Int) < 256 := by omega
   have hc0 := cell_bits r0 k (by omega)
   have hf0 := r0.frozen k
   have R : Aside (Row wr (w.heap.size + 1) (bitC (N % 2 ^ k)) 97 ∧ Row wr w.heap.size (natC 0) 51 ∧ Below w.heap.size w wr) := ⟨r0, r1, hb⟩
   clear r0 r1 hb
   go_wp2
   obtain ⟨r0, r1, hb⟩ := R.out
   go_roundg g
   case measure => omega
   case rel =>
    refine ⟨k + 1, by omega, by go_num, ?_, r1.setCell_far _ _ _ (by omega), below_setCell hb (by omega) _ _⟩
    have := r0.setCell k (.bool (bits BinOp.and IntKind.i64 (↑N / 2 ^ k) 1 == 1))
    rw [bitC_snoc N k _ (bit_test_i _ _ H1.out)] at this
    exact this
theorem rint_any (n : Int) (w : World) (h : n < 9223372036854775808) :
  Calls Try.prog 40 #[.int .i64 n] w fun e w' => e = .returned (.agg (natC n.toNat)) ∧ Below w.heap.size w w' := by
 by_cases h0 : n ≤ 0
 ·exact rint_no n w h0
 ·obtain ⟨N, rfl⟩ := Int.eq_ofNat_of_zero_le (show 0 ≤ n by omega)
  rw [Int.toNat_natCast]
  exact rint_yes N w (by omega) (by omega)
end Go.Proofs.Ytojobffihlmfgaa
/- The document's Not: all bits turned. -/
namespace Go.Proofs.Ytojobffihlmfgaa
open Go.RowKit
/-- All 256 bits turned. -/
def flip (N : Nat) : Nat := 2 ^ 256 - 1 - N % 2 ^ 256
/-- The first k bits turned. -/
def flipTo (N k : Nat) : Nat := flip N % 2 ^ k + N / 2 ^ k * 2 ^ k
end Go.Proofs.Ytojobffihlmfgaa
/- The document's Cmp and Sub. -/
namespace Go.Proofs.Ytojobffihlmfgaa
open Go.RowKit
/-- Which of two is greater. -/
def cmpI (A B : Nat) : Int := if A < B then -1 else if B < A then 1 else 0
end Go.Proofs.Ytojobffihlmfgaa
/- The document's Len, Bit and Low. -/
namespace Go.Proofs.Ytojobffihlmfgaa
open Go.RowKit
theorem bitLen_eq (A g : Nat) (h1 : 2 ^ g ≤ A) (h2 : A < 2 ^ (g + 1)) : bitLen A = g + 1 := by
 have h0 : A ≠ 0 := by have := Nat.two_pow_pos g; omega
 unfold bitLen
 rw [if_neg h0, (Nat.log2_eq_iff h0).2 ⟨h1, h2⟩]
theorem bit_top (A g : Nat) (h2 : A < 2 ^ (g + 1)) : (A.testBit g = true → 2 ^ g ≤ A) ∧ (A.testBit g = false → A < 2 ^ g) := by
 constructor
 ·intro h
  exact Nat.ge_two_pow_of_testBit h
 ·intro h
  rcases bit_cases A g with ⟨_, _, h3⟩ | ⟨h3, _⟩
  ·rw [Nat.mod_eq_of_lt h2] at h3
   rw [h3]
   exact Nat.mod_lt _ (Nat.two_pow_pos g)
  ·rw [h] at h3; cases h3
/-- One bit, as an int. -/
def bitI (A : Nat) (k : Int) : Int := if 0 ≤ k ∧ k < 256 ∧ A.testBit k.toNat = true then 1 else 0
set_option maxRecDepth 100000 in
set_option maxHeartbeats 400000 in
theorem rlen_any (A : Nat) (w : World) (hA : A < 2 ^ 256) :
  Calls Try.prog 68 #[.agg (natC A)] w fun e w' => e = .returned (.int .i64 (bitLen A)) ∧ Below w.heap.size w w' := by
 have HA : Hid (A < 2 ^ 256) := hA
 clear hA
 go_enter Try.func68, Try.ntmps68
 go_wp2_with (first
  | refine wpList_box_row rfl 51 _ rfl _ rfl ?_
  | refine wpList_loadR rfl 51 _ rfl _ rfl (by first | assumption | (refine Row.here ?_; first | (with_reducible rfl) | (simp; done)) | (refine Row.one ?_; first | (with_reducible rfl) | (simp; done)) | (refine Row.two ?_; first | (with_reducible rfl) | (simp; done))) 4 _ Try.underlying51 (by exact size_nat) ?_
  | (go_at_call 62; refine (rof_any _ _).mono ?_; rintro e w2 ⟨rfl, hb2⟩; have hs := hb2.size; have b2 := below_on (below_alloc _) (Nat.le_refl _) hb2; clear hb2)
  | refine wpList_alloc_row rfl 97 rfl _ zero_bits ?_
  | refine wpList_store_new rfl 97 _ _ rfl _ rfl rfl _ _ (by rw [bitC_size]; exact size_bits) (by simp only [bitC_size]) (bitC_one _) ?_)
 have r3 := Row.new w2 (bitC A) 97
 have b3 := b2.alloc b2.size (.cells (bitC A) 97)
 generalize w2.alloc (.cells (bitC A) 97) = w3 at *
 generalize w2.heap.size = r at *
 clear b2 hs
 go_loopg [4] 256 (fun g s4 wr => s4 = .int .i64 ((g : Int) - 1) ∧ A < 2 ^ g ∧ g ≤ 256 ∧ Row wr r (bitC A) 97 ∧ Below w.heap.size w wr)
 case atStart => exact ⟨rfl, HA.out, Nat.le_refl _, r3, b3⟩
 case round =>
  obtain ⟨rfl, hlt, hle, r0, hb⟩ := hrel
  clear r3 b3 HA
  cases gk with
  | zero =>
   obtain rfl : A = 0 := by simpa using hlt
   clear hlt hle
   have hx : ¬ ((0 : Int) ≤ -1) := by omega
   go_wp2
   go_ret
   exact ⟨rfl, hb⟩
  | succ g =>
   have ht := bit_top A g hlt
   have hq := bitLen_eq A g
   have hc0 := cell_bits r0 g (by omega)
   rw [show ((g + 1 : Nat) : Int) - 1 = (g : Int) by omega]
   have hgl : (g : Int) < 256 := by omega
   cases hbit : A.testBit g
   ·rw [hbit] at hc0
    have R : Aside (A < 2 ^ g ∧ Row wr r (bitC A) 97 ∧ Below w.heap.size w wr) := ⟨ht.2 hbit, r0, hb⟩
    clear ht hq r0 hb hlt hbit
    go_wp2
    obtain ⟨h1, r0, hb⟩ := R.out
    go_roundg g
    case measure => omega
    case rel => exact ⟨rfl, h1, by omega, r0, hb⟩
   ·rw [hbit] at hc0
    have R : Aside (bitLen A = g + 1 ∧ Below w.heap.size w wr) := ⟨hq (ht.1 hbit) hlt, hb⟩
    clear ht hq r0 hb hlt hbit
    go_wp2
    go_ret
    exact ⟨by rw [R.out.1]; rfl, R.out.2⟩
set_option maxRecDepth 100000 in
set_option maxHeartbeats 400000 in
theorem rbit_in (A k : Nat) (w : World) (hk : k < 256) :
  Calls Try.prog 69 #[.agg (natC A), .int .i64 k] w fun e w' => e = .returned (.int .i64 (if A.testBit k = true then 1 else 0)) ∧ Below w.heap.size w w' := by
 have hk' : (k : Int) < 256 := by omega
 cases hbit : A.testBit k
 all_goals
  have HB : Hid (A.testBit k = _) := hbit
  clear hbit
  go_enter Try.func69, Try.ntmps69
  go_wp2_with (first
   | refine wpList_box_row rfl 51 _ rfl _ rfl ?_
   | refine wpList_loadR rfl 51 _ rfl _ rfl (by first | assumption | (refine Row.here ?_; first | (with_reducible rfl) | (simp; done)) | (refine Row.one ?_; first | (with_reducible rfl) | (simp; done)) | (refine Row.two ?_; first | (with_reducible rfl) | (simp; done))) 4 _ Try.underlying51 (by exact size_nat) ?_
   | (go_at_call 62; refine (rof_any _ _).mono ?_; rintro e w2 ⟨rfl, hb2⟩; have b2 := (below_on (below_alloc _) (Nat.le_refl _) hb2).alloc (by have := hb2.size; simp at this; omega) (.cells (bitC A) 97); clear hb2; have hc0 := cell_bits (Row.new w2 (bitC A) 97) k hk; rw [HB.out] at hc0)
   | refine wpList_alloc_row rfl 97 rfl _ zero_bits ?_
   | refine wpList_store_new rfl 97 _ _ rfl _ rfl rfl _ _ (by rw [bitC_size]; exact size_bits) (by simp only [bitC_size]) (bitC_one _) ?_)
  go_ret
  exact ⟨rfl, b2⟩
set_option maxRecDepth 100000 in
set_option maxHeartbeats 400000 in
theorem rbit_out (A : Nat) (k : Int) (w : World) (hk : k < 0 ∨ 256 ≤ k) :
  Calls Try.prog 69 #[.agg (natC A), .int .i64 k] w fun e w' => e = .returned (.int .i64 0) ∧ Below w.heap.size w w' := by
 rcases hk with hk | hk
 ·have h1 : ¬ (0 ≤ k) := by omega
  have h2 : decide (0 ≤ k) = false := by simpa using h1
  go_enter Try.func69, Try.ntmps69
  go_wp2_with (first
   | refine wpList_box_row rfl 51 _ rfl _ rfl ?_
   | refine wpList_loadR rfl 51 _ rfl _ rfl (by first | assumption | (refine Row.here ?_; first | (with_reducible rfl) | (simp; done)) | (refine Row.one ?_; first | (with_reducible rfl) | (simp; done)) | (refine Row.two ?_; first | (with_reducible rfl) | (simp; done))) 4 _ Try.underlying51 (by exact size_nat) ?_
   | (go_at_call 62; refine (rof_any _ _).mono ?_; rintro e w2 ⟨rfl, hb2⟩; have b2 := (below_on (below_alloc _) (Nat.le_refl _) hb2).alloc (by have := hb2.size; simp at this; omega) (.cells (bitC A) 97); clear hb2)
   | refine wpList_alloc_row rfl 97 rfl _ zero_bits ?_
   | refine wpList_store_new rfl 97 _ _ rfl _ rfl rfl _ _ (by rw [bitC_size]; exact size_bits) (by simp only [bitC_size]) (bitC_one _) ?_)
  go_ret
  exact ⟨rfl, b2⟩
 ·have h1 : ¬ (k < 256) := by omega
  have h2 : decide (k < 256) = false := by simpa using h1
  have h3 : 0 ≤ k := by omega
  go_enter Try.func69, Try.ntmps69
  go_wp2_with (first
   | refine wpList_box_row rfl 51 _ rfl _ rfl ?_
   | refine wpList_loadR rfl 51 _ rfl _ rfl (by first | assumption | (refine Row.here ?_; first | (with_reducible rfl) | (simp; done)) | (refine Row.one ?_; first | (with_reducible rfl) | (simp; done)) | (refine Row.two ?_; first | (with_reducible rfl) | (simp; done))) 4 _ Try.underlying51 (by exact size_nat) ?_
   | (go_at_call 62; refine (rof_any _ _).mono ?_; rintro e w2 ⟨rfl, hb2⟩; have b2 := (below_on (below_alloc _) (Nat.le_refl _) hb2).alloc (by have := hb2.size; simp at this; omega) (.cells (bitC A) 97); clear hb2)
   | refine wpList_alloc_row rfl 97 rfl _ zero_bits ?_
   | refine wpList_store_new rfl 97 _ _ rfl _ rfl rfl _ _ (by rw [bitC_size]; exact size_bits) (by simp only [bitC_size]) (bitC_one _) ?_)
  go_ret
  exact ⟨rfl, b2⟩
theorem rbit_any (A : Nat) (k : Int) (w : World) :
  Calls Try.prog 69 #[.agg (natC A), .int .i64 k] w fun e w' => e = .returned (.int .i64 (bitI A k)) ∧ Below w.heap.size w w' := by
 unfold bitI
 by_cases h0 : 0 ≤ k ∧ k < 256
 ·obtain ⟨K, rfl⟩ := Int.eq_ofNat_of_zero_le h0.1
  refine (rbit_in A K w (by omega)).mono fun e w' ⟨he, hb⟩ => ⟨?_, hb⟩
  rw [he, Int.toNat_natCast]
  by_cases hb : A.testBit K = true
  ·rw [if_pos hb, if_pos ⟨h0.1, h0.2, hb⟩]
  ·rw [if_neg hb, if_neg (fun h => hb h.2.2)]
 ·rw [if_neg (fun h => h0 ⟨h.1, h.2.1⟩)]
  exact rbit_out A k w (by omega)
end Go.Proofs.Ytojobffihlmfgaa
/- nat.Add and nat.Sub: the limbs' sums and rests, carried. -/
namespace Go.Proofs.Ytojobffihlmfgaa
open Go.RowKit
end Go.Proofs.Ytojobffihlmfgaa
/- nat.Of, nat.Int, nat.Cmp, nat.Bit; two naturals held against each other. -/
namespace Go.Proofs.Ytojobffihlmfgaa
open Go.RowKit
theorem natC_eq (X Y : Nat) : natC X = natC Y ↔ X % 2 ^ 256 = Y % 2 ^ 256 := ⟨natC_inj, fun h => by rw [← natC_full X, ← natC_full Y, h]⟩
theorem natC_lms (X Y : Nat) : (lm X 0 = lm Y 0 ∧ lm X 1 = lm Y 1 ∧ lm X 2 = lm Y 2 ∧ lm X 3 = lm Y 3) ↔ X % 2 ^ 256 = Y % 2 ^ 256 := by
 rw [← natC_eq]
 constructor
 ·rintro ⟨h0, h1, h2, h3⟩
  unfold natC
  rw [h0, h1, h2, h3]
 ·intro h
  have hl : ∀ i, i < 4 → lm X i = lm Y i := fun i hi => by
   have h1 := natC_get X i hi
   rw [h, natC_get Y i hi] at h1
   simp only [Option.some.injEq, Value.int.injEq, true_and] at h1
   omega
  exact ⟨hl 0 (by omega), hl 1 (by omega), hl 2 (by omega), hl 3 (by omega)⟩
set_option maxHeartbeats 1000000 in
theorem equal_nat (X Y : Nat) (w : World) : (Op.equalIn 10000 51 (.agg (natC X)) (.agg (natC Y))).run Try.prog w = .ok (decide (X % 2 ^ 256 = Y % 2 ^ 256)) w := by
 have h := natC_lms X Y
 rw [show decide (X % 2 ^ 256 = Y % 2 ^ 256) = decide (lm X 0 = lm Y 0 ∧ lm X 1 = lm Y 1 ∧ lm X 2 = lm Y 2 ∧ lm X 3 = lm Y 3) from decide_eq_decide.2 h.symm]
 clear h
 have u3 := Try.underlying49
 have a3 := Try.isAgg49
 have z3 := Try.sizeOf49
 unfold natC
 rw [show (10000 : Nat) = 9999 + 1 from rfl, Op.equalIn]
 simp only [Sem.run_bind, run_underlying Try.underlying51, Result.andThen_ok]
 simp only [Std.Legacy.Range.forIn_eq_forIn_range', Std.Legacy.Range.size, Nat.sub_zero, Nat.add_sub_cancel, Nat.div_one, List.range'_succ, List.range'_zero, List.forIn_cons, List.forIn_nil]
 go_simp
 by_cases h1 : lm X 0 = lm Y 0 <;> by_cases h2 : lm X 1 = lm Y 1 <;> by_cases h3 : lm X 2 = lm Y 2 <;> by_cases h4 : lm X 3 = lm Y 3 <;> simp [h1, h2, h3, h4] <;> omega
theorem exec_neq_nat {o : Oper} {ρ : Operand → Value} (x y : Operand) (u : TypeId) (ho : o.op = .binOp .neq 51 x y u) (X Y : Nat) (hx : ρ x = .agg (natC X)) (hy : ρ y = .agg (natC Y)) (w : World) :
  (execOp ρ o).run Try.prog w = .ok (.value (.bool (!decide (X % 2 ^ 256 = Y % 2 ^ 256)))) w := by
 unfold execOp
 simp only [ho, hx, hy]
 simp [eqGuard, run_neq_struct, equal_nat]
theorem wpList_value {P : Program} {ops : Array Oper} {rest : List Oper} {o : Oper} {a : Act} {w : World} {Q : Exit → Act → World → Prop} (hgd : o.guard = none) (v : Value)
  (hr : (execOp a.eval o).run P w = .ok (.value v) w) (h : wpList P ops Q rest (a.put o.dst v) w) : wpList P ops Q (o :: rest) a w :=
 wpList_plain hgd fun _ hK => by unfold Oper.wp; rw [hr]; exact hK _ _ h
end Go.Proofs.Ytojobffihlmfgaa
/- nat.Int, and the document's Sub. -/
namespace Go.Proofs.Ytojobffihlmfgaa
open Go.RowKit
/-- A natural as an int, if it is one. -/
def lowI (A : Nat) : Int := if A < 9223372036854775808 then A else 0
def lowB (A : Nat) : Bool := decide (A < 9223372036854775808)
end Go.Proofs.Ytojobffihlmfgaa
/- bits.Len64 and nat.Len. -/
namespace Go.Proofs.Ytojobffihlmfgaa
open Go.RowKit
/-- A byte of the library's table of bit lengths. -/
theorem exec_index_tab {P : Program} {o : Oper} {ρ : Operand → Value} (t : TypeId) (x ix : Operand) (ho : o.op = .index t x ix) (hu : P.underlying t = some .string) (S : ByteArray) (hx : ρ x = .string S)
  (hS : S.data.toList.map UInt8.toNat = (List.range 256).map bitLen) (k : IntKind) (i : Int) (hi : ρ ix = .int k i) (h0 : 0 ≤ i) (h1 : i < 256) (w : World) :
  (execOp ρ o).run P w = .ok (.value (.int .u8 (bitLen i.toNat))) w := by
 have hsz : S.size = 256 := by
  have := congrArg List.length hS
  simpa using this
 have hlt : i.toNat < S.size := by omega
 have hget : (S[i.toNat]'hlt).toNat = bitLen i.toNat := by
  have h2 := congrArg (fun l : List Nat => l[i.toNat]?) hS
  simp only [List.getElem?_map] at h2
  rw [List.getElem?_range (by omega)] at h2
  have h3 : S.data.toList[i.toNat]? = some (S[i.toNat]'hlt) := by
   rw [Array.getElem?_toList]
   exact Array.getElem?_eq_getElem hlt
  rw [h3] at h2
  simpa using h2
 unfold execOp
 simp only [ho, hx, hi, Sem.run_bind]
 rw [run_index_string w t S k i hu, dif_pos ⟨h0, by omega⟩, hget]
 rfl
theorem ret_int {k : IntKind} {a b : Int} (h : a = b) : Ending.returned (.int k a) = .returned (.int k b) := by rw [h]
theorem wrap64_small (q n : Nat) (hq : q ≤ 8) (hn : n ≤ 56) : wrap64 ((n : Int) + wrap64 (q : Int)) = ((n + q : Nat) : Int) := by unfold wrap64; omega
theorem wrap64_small0 (q : Nat) (hq : q ≤ 8) : wrap64 (wrap64 (q : Int)) = (q : Int) := by unfold wrap64; omega
set_option maxRecDepth 1000000 in
set_option maxHeartbeats 1000000 in
theorem len64_0 (x : Nat) (w : World) (h0 : 0 ≤ x) (h1 : x < 256) :
  Calls Try.prog 76 #[.int .u64 x] w fun e w' => e = .returned (.int .i64 (bitLen x)) ∧ w' = w := by
 have t0 : ¬ (4294967296 : Int) ≤ (x : Int) := by omega
 have t1 : ¬ (65536 : Int) ≤ (x : Int) := by omega
 have t2 : ¬ (256 : Int) ≤ (x : Int) := by omega
 have HX : Hid (0 ≤ (x : Int) ∧ (x : Int) < 256) := ⟨by omega, by omega⟩
 have HE : Hid (x = x / 1) := by show _ = _; omega
 have HB8 : Hid (bitLen (x / 1) ≤ 8) := bitLen_le8 _ (by omega)
 have HB : Hid (bitLen x = 0 + bitLen (x / 1)) := by
  show _ = _
  rw [Nat.div_one]; omega
 clear h0 h1
 go_enter Try.func76, Try.ntmps76
 go_wp2_with (first
  | (refine wpList_value rfl _ (exec_index_tab 9 _ _ rfl Try.underlying9 _ rfl ?_ _ _ rfl ?_ ?_ _) ?_; (· kernel_rfl); (· exact HX.out.1); (· exact HX.out.2)))
 go_ret
 have hb := HB8.out
 rw [Nat.div_one] at hb
 exact ⟨ret_int (wrap64_small0 _ hb), rfl⟩
set_option maxRecDepth 1000000 in
set_option maxHeartbeats 1000000 in
theorem len64_1 (x : Nat) (w : World) (h0 : 256 ≤ x) (h1 : x < 65536) :
  Calls Try.prog 76 #[.int .u64 x] w fun e w' => e = .returned (.int .i64 (bitLen x)) ∧ w' = w := by
 have t0 : ¬ (4294967296 : Int) ≤ (x : Int) := by omega
 have t1 : ¬ (65536 : Int) ≤ (x : Int) := by omega
 have t2 : (256 : Int) ≤ (x : Int) := by omega
 have HX : Hid (0 ≤ (x : Int) / 256 ∧ (x : Int) / 256 < 256) := ⟨by omega, by omega⟩
 have HB8 : Hid (bitLen (x / 256) ≤ 8) := bitLen_le8 _ (by omega)
 have HB : Hid (bitLen x = 8 + bitLen (x / 256)) := by
  show _ = _
  exact bitLen_shift x 8 (show x / 256 ≠ 0 by omega)
 clear h0 h1
 go_enter Try.func76, Try.ntmps76
 go_wp2_with (first
  | (refine wpList_value rfl _ (exec_index_tab 9 _ _ rfl Try.underlying9 _ rfl ?_ _ _ rfl ?_ ?_ _) ?_; (· kernel_rfl); (· exact HX.out.1); (· exact HX.out.2)))
 go_ret
 refine ⟨ret_int ?_, rfl⟩
 rw [HB.out]
 exact wrap64_small _ 8 HB8.out (by decide)
set_option maxRecDepth 1000000 in
set_option maxHeartbeats 1000000 in
theorem len64_2 (x : Nat) (w : World) (h0 : 65536 ≤ x) (h1 : x < 16777216) :
  Calls Try.prog 76 #[.int .u64 x] w fun e w' => e = .returned (.int .i64 (bitLen x)) ∧ w' = w := by
 have t0 : ¬ (4294967296 : Int) ≤ (x : Int) := by omega
 have t1 : (65536 : Int) ≤ (x : Int) := by omega
 have t2 : ¬ (256 : Int) ≤ (x : Int) / 65536 := by omega
 have HX : Hid (0 ≤ (x : Int) / 65536 ∧ (x : Int) / 65536 < 256) := ⟨by omega, by omega⟩
 have HB8 : Hid (bitLen (x / 65536) ≤ 8) := bitLen_le8 _ (by omega)
 have HB : Hid (bitLen x = 16 + bitLen (x / 65536)) := by
  show _ = _
  exact bitLen_shift x 16 (show x / 65536 ≠ 0 by omega)
 clear h0 h1
 go_enter Try.func76, Try.ntmps76
 go_wp2_with (first
  | (refine wpList_value rfl _ (exec_index_tab 9 _ _ rfl Try.underlying9 _ rfl ?_ _ _ rfl ?_ ?_ _) ?_; (· kernel_rfl); (· exact HX.out.1); (· exact HX.out.2)))
 go_ret
 refine ⟨ret_int ?_, rfl⟩
 rw [HB.out]
 exact wrap64_small _ 16 HB8.out (by decide)
set_option maxRecDepth 1000000 in
set_option maxHeartbeats 1000000 in
theorem len64_3 (x : Nat) (w : World) (h0 : 16777216 ≤ x) (h1 : x < 4294967296) :
  Calls Try.prog 76 #[.int .u64 x] w fun e w' => e = .returned (.int .i64 (bitLen x)) ∧ w' = w := by
 have t0 : ¬ (4294967296 : Int) ≤ (x : Int) := by omega
 have t1 : (65536 : Int) ≤ (x : Int) := by omega
 have t2 : (256 : Int) ≤ (x : Int) / 65536 := by omega
 have HX : Hid (0 ≤ (x : Int) / 65536 / 256 ∧ (x : Int) / 65536 / 256 < 256) := ⟨by omega, by omega⟩
 have HE : Hid (x / 65536 / 256 = x / 16777216) := by show _ = _; omega
 have HB8 : Hid (bitLen (x / 16777216) ≤ 8) := bitLen_le8 _ (by omega)
 have HB : Hid (bitLen x = 24 + bitLen (x / 16777216)) := by
  show _ = _
  exact bitLen_shift x 24 (show x / 16777216 ≠ 0 by omega)
 clear h0 h1
 go_enter Try.func76, Try.ntmps76
 go_wp2_with (first
  | (refine wpList_value rfl _ (exec_index_tab 9 _ _ rfl Try.underlying9 _ rfl ?_ _ _ rfl ?_ ?_ _) ?_; (· kernel_rfl); (· exact HX.out.1); (· exact HX.out.2)))
 go_ret
 refine ⟨ret_int ?_, rfl⟩
 have hb := HB8.out
 rw [HB.out]
 rw [← HE.out] at hb ⊢
 exact wrap64_small _ 24 hb (by decide)
set_option maxRecDepth 1000000 in
set_option maxHeartbeats 1000000 in
theorem len64_4 (x : Nat) (w : World) (h0 : 4294967296 ≤ x) (h1 : x < 1099511627776) :
  Calls Try.prog 76 #[.int .u64 x] w fun e w' => e = .returned (.int .i64 (bitLen x)) ∧ w' = w := by
 have t0 : (4294967296 : Int) ≤ (x : Int) := by omega
 have t1 : ¬ (65536 : Int) ≤ (x : Int) / 4294967296 := by omega
 have t2 : ¬ (256 : Int) ≤ (x : Int) / 4294967296 := by omega
 have HX : Hid (0 ≤ (x : Int) / 4294967296 ∧ (x : Int) / 4294967296 < 256) := ⟨by omega, by omega⟩
 have HB8 : Hid (bitLen (x / 4294967296) ≤ 8) := bitLen_le8 _ (by omega)
 have HB : Hid (bitLen x = 32 + bitLen (x / 4294967296)) := by
  show _ = _
  exact bitLen_shift x 32 (show x / 4294967296 ≠ 0 by omega)
 clear h0 h1
 go_enter Try.func76, Try.ntmps76
 go_wp2_with (first
  | (refine wpList_value rfl _ (exec_index_tab 9 _ _ rfl Try.underlying9 _ rfl ?_ _ _ rfl ?_ ?_ _) ?_; (· kernel_rfl); (· exact HX.out.1); (· exact HX.out.2)))
 go_ret
 refine ⟨ret_int ?_, rfl⟩
 rw [HB.out]
 exact wrap64_small _ 32 HB8.out (by decide)
set_option maxRecDepth 1000000 in
set_option maxHeartbeats 1000000 in
theorem len64_5 (x : Nat) (w : World) (h0 : 1099511627776 ≤ x) (h1 : x < 281474976710656) :
  Calls Try.prog 76 #[.int .u64 x] w fun e w' => e = .returned (.int .i64 (bitLen x)) ∧ w' = w := by
 have t0 : (4294967296 : Int) ≤ (x : Int) := by omega
 have t1 : ¬ (65536 : Int) ≤ (x : Int) / 4294967296 := by omega
 have t2 : (256 : Int) ≤ (x : Int) / 4294967296 := by omega
 have HX : Hid (0 ≤ (x : Int) / 4294967296 / 256 ∧ (x : Int) / 4294967296 / 256 < 256) := ⟨by omega, by omega⟩
 have HE : Hid (x / 4294967296 / 256 = x / 1099511627776) := by show _ = _; omega
 have HB8 : Hid (bitLen (x / 1099511627776) ≤ 8) := bitLen_le8 _ (by omega)
 have HB : Hid (bitLen x = 40 + bitLen (x / 1099511627776)) := by
  show _ = _
  exact bitLen_shift x 40 (show x / 1099511627776 ≠ 0 by omega)
 clear h0 h1
 go_enter Try.func76, Try.ntmps76
 go_wp2_with (first
  | (refine wpList_value rfl _ (exec_index_tab 9 _ _ rfl Try.underlying9 _ rfl ?_ _ _ rfl ?_ ?_ _) ?_; (· kernel_rfl); (· exact HX.out.1); (· exact HX.out.2)))
 go_ret
 refine ⟨ret_int ?_, rfl⟩
 have hb := HB8.out
 rw [HB.out]
 rw [← HE.out] at hb ⊢
 exact wrap64_small _ 40 hb (by decide)
set_option maxRecDepth 1000000 in
set_option maxHeartbeats 1000000 in
theorem len64_6 (x : Nat) (w : World) (h0 : 281474976710656 ≤ x) (h1 : x < 72057594037927936) :
  Calls Try.prog 76 #[.int .u64 x] w fun e w' => e = .returned (.int .i64 (bitLen x)) ∧ w' = w := by
 have t0 : (4294967296 : Int) ≤ (x : Int) := by omega
 have t1 : (65536 : Int) ≤ (x : Int) / 4294967296 := by omega
 have t2 : ¬ (256 : Int) ≤ (x : Int) / 4294967296 / 65536 := by omega
 have HX : Hid (0 ≤ (x : Int) / 4294967296 / 65536 ∧ (x : Int) / 4294967296 / 65536 < 256) := ⟨by omega, by omega⟩
 have HE : Hid (x / 4294967296 / 65536 = x / 281474976710656) := by show _ = _; omega
 have HB8 : Hid (bitLen (x / 281474976710656) ≤ 8) := bitLen_le8 _ (by omega)
 have HB : Hid (bitLen x = 48 + bitLen (x / 281474976710656)) := by
  show _ = _
  exact bitLen_shift x 48 (show x / 281474976710656 ≠ 0 by omega)
 clear h0 h1
 go_enter Try.func76, Try.ntmps76
 go_wp2_with (first
  | (refine wpList_value rfl _ (exec_index_tab 9 _ _ rfl Try.underlying9 _ rfl ?_ _ _ rfl ?_ ?_ _) ?_; (· kernel_rfl); (· exact HX.out.1); (· exact HX.out.2)))
 go_ret
 refine ⟨ret_int ?_, rfl⟩
 have hb := HB8.out
 rw [HB.out]
 rw [← HE.out] at hb ⊢
 exact wrap64_small _ 48 hb (by decide)
set_option maxRecDepth 1000000 in
set_option maxHeartbeats 1000000 in
theorem len64_7 (x : Nat) (w : World) (h0 : 72057594037927936 ≤ x) (h1 : x < 18446744073709551616) :
  Calls Try.prog 76 #[.int .u64 x] w fun e w' => e = .returned (.int .i64 (bitLen x)) ∧ w' = w := by
 have t0 : (4294967296 : Int) ≤ (x : Int) := by omega
 have t1 : (65536 : Int) ≤ (x : Int) / 4294967296 := by omega
 have t2 : (256 : Int) ≤ (x : Int) / 4294967296 / 65536 := by omega
 have HX : Hid (0 ≤ (x : Int) / 4294967296 / 65536 / 256 % 256 ∧ (x : Int) / 4294967296 / 65536 / 256 % 256 < 256) := ⟨by omega, by omega⟩
 have HE : Hid (x / 4294967296 / 65536 / 256 % 256 = x / 72057594037927936) := by show _ = _; omega
 have HB8 : Hid (bitLen (x / 72057594037927936) ≤ 8) := bitLen_le8 _ (by omega)
 have HB : Hid (bitLen x = 56 + bitLen (x / 72057594037927936)) := by
  show _ = _
  exact bitLen_shift x 56 (show x / 72057594037927936 ≠ 0 by omega)
 clear h0 h1
 go_enter Try.func76, Try.ntmps76
 go_wp2_with (first
  | (refine wpList_value rfl _ (exec_index_tab 9 _ _ rfl Try.underlying9 _ rfl ?_ _ _ rfl ?_ ?_ _) ?_; (· kernel_rfl); (· exact HX.out.1); (· exact HX.out.2)))
 go_ret
 refine ⟨ret_int ?_, rfl⟩
 have hb := HB8.out
 rw [HB.out]
 rw [← HE.out] at hb ⊢
 exact wrap64_small _ 56 hb (by decide)
theorem len64_any (x : Nat) (w : World) (h : x < 18446744073709551616) :
  Calls Try.prog 76 #[.int .u64 x] w fun e w' => e = .returned (.int .i64 (bitLen x)) ∧ w' = w := by
 by_cases h0 : x < 256
 ·exact len64_0 x w (by omega) h0
 by_cases h1 : x < 65536
 ·exact len64_1 x w (by omega) h1
 by_cases h2 : x < 16777216
 ·exact len64_2 x w (by omega) h2
 by_cases h3 : x < 4294967296
 ·exact len64_3 x w (by omega) h3
 by_cases h4 : x < 1099511627776
 ·exact len64_4 x w (by omega) h4
 by_cases h5 : x < 281474976710656
 ·exact len64_5 x w (by omega) h5
 by_cases h6 : x < 72057594037927936
 ·exact len64_6 x w (by omega) h6
 exact len64_7 x w (by omega) h
theorem bitLen_64 (x : Nat) (h : x < 18446744073709551616) : bitLen x ≤ 64 := by
 unfold bitLen
 split
 ·omega
 ·rename_i h0
  have := (Nat.log2_lt h0).2 (show x < 2 ^ 64 from h)
  omega
theorem lm_top (A k : Nat) (h : A < 2 ^ (64 * (k + 1))) : lm A k = A / 2 ^ (64 * k) := by
 unfold lm
 refine Nat.mod_eq_of_lt (Nat.div_lt_of_lt_mul ?_)
 rw [← Nat.pow_add]
 exact h
theorem bitLen_lm (A k : Nat) (h : A < 2 ^ (64 * (k + 1))) (h0 : lm A k ≠ 0) : bitLen A = 64 * k + bitLen (lm A k) := by
 rw [lm_top A k h] at h0 ⊢
 exact bitLen_shift A (64 * k) h0
theorem lm_down (A k : Nat) (h : A < 2 ^ (64 * (k + 1))) (h0 : lm A k = 0) : A < 2 ^ (64 * k) := by
 rw [lm_top A k h] at h0
 exact (Nat.div_eq_zero_iff_lt (Nat.two_pow_pos _)).1 h0
set_option maxRecDepth 100000 in
set_option maxHeartbeats 400000 in
theorem nlen_any (A : Nat) (w : World) (hA : A < 2 ^ 256) :
  Calls Try.prog 72 #[.agg (natC A)] w fun e w' => e = .returned (.int .i64 (bitLen A)) ∧ Below w.heap.size w w' := by
 have HA : Hid (A < 2 ^ 256) := hA
 clear hA
 go_enter Try.func72, Try.ntmps72
 go_wp2_with (first
  | refine wpList_box_row rfl 51 _ rfl _ rfl ?_)
 go_loopg [5] 4 (fun g s5 wr => ∃ k : Nat, k + g = 4 ∧ s5 = .int .i64 k ∧ A < 2 ^ (64 * g) ∧ Row wr w.heap.size (natC A) 51 ∧ Below w.heap.size w wr)
 case atStart => exact ⟨0, by omega, rfl, HA.out, Row.new _ _ _, below_alloc _⟩
 case round =>
  obtain ⟨k, hk, rfl, hlt, r0, hb⟩ := hrel
  cases gk with
  | zero =>
   obtain rfl : k = 4 := by omega
   obtain rfl : A = 0 := by simpa using hlt
   clear hlt hk HA
   have hx : ¬ ((4 : Int) < 4) := by omega
   go_wp2
   go_ret
   exact ⟨rfl, hb⟩
  | succ g =>
   have hk4 : (k : Int) < 4 := by omega
   have hc0 := cell_nat r0 g (by omega)
   have hsub : (3 : Int) - k = g := by omega
   have hl := lm_lt A g
   by_cases h0 : lm A g = 0
   ·have R : Aside (A < 2 ^ (64 * g) ∧ Row wr w.heap.size (natC A) 51 ∧ Below w.heap.size w wr) := ⟨lm_down A g hlt h0, r0, hb⟩
    rw [h0] at hc0
    clear r0 hb hlt HA h0 hl
    go_wp2
    obtain ⟨h1, r0, hb⟩ := R.out
    go_roundg g
    case measure => omega
    case rel => exact ⟨k + 1, by omega, by go_num, h1, r0, hb⟩
   ·have R : Aside (bitLen A = 64 * g + bitLen (lm A g) ∧ bitLen (lm A g) ≤ 64 ∧ Below w.heap.size w wr) := ⟨bitLen_lm A g hlt h0, ?_, hb⟩
    ·have hne : ((lm A g : Nat) : Int) ≠ 0 := by omega
     have HL : Hid (lm A g < 18446744073709551616) := hl
     clear r0 hb hlt HA h0 hl
     go_wp2_with (first
      | (go_at_call 76; refine (len64_any _ _ HL.out).mono ?_; rintro e w2 ⟨rfl, rfl⟩))
     go_ret
     obtain ⟨h1, h2, hb⟩ := R.out
     refine ⟨ret_int ?_, hb⟩
     rw [h1]
     unfold wrap64
     omega
    ·exact bitLen_64 _ hl
end Go.Proofs.Ytojobffihlmfgaa
