/- The document's Add: the sum, bit by bit. -/
import Derived.Test.YteddgjoailpgaaaGA
import Derived.Deep.DeepCutAuto
namespace Go.Proofs.Yteddgjoailpgaaa
open Go.RowKit
set_option maxRecDepth 100000 in
set_option maxHeartbeats 1000000 in
theorem radd_any (A B : Nat) (w : World) :
  Calls Try.prog 42 #[.agg (natC A), .agg (natC B)] w fun e w' => e = .returned (.tuple #[.agg (natC (A + B)), .int .i64 (cN A B 256 : Nat)]) ∧ Below w.heap.size w w' := by
 go_enter Try.func42, Try.ntmps42
 go_wp2_with (first
  | refine wpList_box_row rfl 24 _ rfl _ rfl ?_
  | refine wpList_alloc_row rfl 24 rfl _ zero_nat ?_)
 have hW : (((w.alloc (Obj.cells (natC A) 24)).alloc (Obj.cells (natC B) 24)).alloc (Obj.cells (natC 0) 24)).heap.size = w.heap.size + 3 := by simp
 have rA : Row (((w.alloc (Obj.cells (natC A) 24)).alloc (Obj.cells (natC B) 24)).alloc (Obj.cells (natC 0) 24)) w.heap.size (natC A) 24 := ((Row.here rfl).alloc _).alloc _
 have rB : Row (((w.alloc (Obj.cells (natC A) 24)).alloc (Obj.cells (natC B) 24)).alloc (Obj.cells (natC 0) 24)) (w.heap.size + 1) (natC B) 24 := (Row.here (by simp)).alloc _
 have rR : Row (((w.alloc (Obj.cells (natC A) 24)).alloc (Obj.cells (natC B) 24)).alloc (Obj.cells (natC 0) 24)) (w.heap.size + 1 + 1) (natC 0) 24 := Row.here (by simp)
 have bW : Below w.heap.size w (((w.alloc (Obj.cells (natC A) 24)).alloc (Obj.cells (natC B) 24)).alloc (Obj.cells (natC 0) 24)) := (((Below.refl _ _).alloc (Nat.le_refl _) _).alloc (by simp) _).alloc (by simp; omega) _
 generalize (((w.alloc (Obj.cells (natC A) 24)).alloc (Obj.cells (natC B) 24)).alloc (Obj.cells (natC 0) 24)) = W at *
 refine wp_region_inv0 (by kernel_rfl) (fun d a' w' =>
  (d 6 = false ∧ d 7 = false ∧ (d 3 = true → d 2 = true) ∧ ∃ vp vq va vx vb vy : Value, a' = ({ tmps := List.toArray ((.agg (natC A)) :: (.agg (natC B)) :: (.pointer (some ⟨w.heap.size, 0, none⟩)) :: (.pointer (some ⟨w.heap.size + 1, 0, none⟩)) :: (.pointer (some ⟨w.heap.size + 1 + 1, 0, none⟩)) :: (.int .i64 0) :: vp :: vq :: undef :: undef :: undef :: va :: vx :: vb :: vy :: undef :: undef :: undef :: undef :: undef :: undef :: undef :: undef :: undef :: undef :: undef :: undef :: undef :: undef :: undef :: undef :: undef :: undef :: undef :: undef :: undef :: undef :: undef :: undef :: undef :: undef :: undef :: undef :: undef :: undef :: undef :: undef :: undef :: undef :: undef :: undef :: undef :: undef :: undef :: undef :: undef :: undef :: []), defers := [] } : Act) ∧
   (d 0 = true → va = .agg (natC A)) ∧ (d 1 = true → vx = .agg (bitC A)) ∧ (d 2 = true → vb = .agg (natC B)) ∧ (d 3 = true → vy = .agg (bitC B)) ∧
   (d 4 = true → ∃ p, vp = .pointer (some ⟨p, 0, none⟩) ∧ w.heap.size + 3 ≤ p ∧ Row w' p (bitC 0) 71) ∧ (d 5 = true → ∃ q, vq = .pointer (some ⟨q, 0, none⟩) ∧ w.heap.size + 3 ≤ q ∧ Row w' q (bitC 0) 71) ∧
   (d 4 = true → d 5 = true → vp ≠ vq) ∧ Below (w.heap.size + 3) W w') ∨
  ((∀ j, j < 7 → d j = true) ∧ ∃ p q va vx vb vy, ∃ vp vq : Value, vp = .pointer (some ⟨p, 0, none⟩) ∧ vq = .pointer (some ⟨q, 0, none⟩) ∧ va = .agg (natC A) ∧ vx = .agg (bitC A) ∧ vb = .agg (natC B) ∧ vy = .agg (bitC B) ∧ a' = ({ tmps := List.toArray ((.agg (natC A)) :: (.agg (natC B)) :: (.pointer (some ⟨w.heap.size, 0, none⟩)) :: (.pointer (some ⟨w.heap.size + 1, 0, none⟩)) :: (.pointer (some ⟨w.heap.size + 1 + 1, 0, none⟩)) :: (.int .i64 0) :: vp :: vq :: undef :: undef :: undef :: va :: vx :: vb :: vy :: undef :: undef :: undef :: undef :: undef :: undef :: undef :: undef :: undef :: undef :: undef :: undef :: undef :: undef :: undef :: undef :: undef :: undef :: undef :: undef :: undef :: undef :: undef :: undef :: undef :: undef :: undef :: undef :: undef :: undef :: undef :: undef :: undef :: undef :: undef :: undef :: undef :: undef :: undef :: undef :: undef :: undef :: []), defers := [] } : Act) ∧
   w.heap.size + 3 ≤ p ∧ w.heap.size + 3 ≤ q ∧ p ≠ q ∧ Row w' p (bitC A) 71 ∧ Row w' q (if d 7 = true then bitC B else bitC 0) 71 ∧ Below (w.heap.size + 3) W w')) (by kernel_rfl) ?start ?step ?fin
 case start => exact .inl ⟨rfl, rfl, nofun, undef, undef, undef, undef, undef, undef, rfl, nofun, nofun, nofun, nofun, nofun, nofun, nofun, (Below.refl _ _).drew⟩
 case step =>
  intro i o ho d a' w' hI hd hpre
  rcases hI with ⟨d6, d7, d32, vp, vq, va, vx, vb, vy, rfl, h0, h1, h2, h3, h4, h5, h6, hb⟩ | ⟨hall, p, q, va, vx, vb, vy, vp, vq, rfl, rfl, rfl, rfl, rfl, rfl, rfl, hp, hq, hne, rp, rq, hb⟩
  ·have hsz : w.heap.size + 3 ≤ w'.heap.size := by have := hb.size; omega
   match i, ho with
   | 0, ho =>
    have ho' := Option.some.inj ho
    subst ho'
    refine opw_load 24 _ rfl w.heap.size rfl (rA.below hb (by omega)) 4 _ Try.underlying24 size_nat ?_
    exact .inl ⟨d6, d7, d32, vp, vq, _, vx, vb, vy, rfl, fun _ => rfl, h1, h2, h3, h4, h5, h6, hb⟩
   | 1, ho =>
    have ho' := Option.some.inj ho
    subst ho'
    have e0 := h0 (hpre ⟨0, .data⟩ (by simp) rfl)
    subst e0
    refine opw_call 53 _ _ rfl Try.func53 (by kernel_rfl) #[.agg (natC A)] rfl ?_
    refine (rof_any A w').mono fun e w2 ⟨he, hb2⟩ => ⟨_, he, .inl ⟨d6, d7, d32, vp, vq, _, _, vb, vy, rfl, fun _ => rfl, fun _ => rfl, h2, h3, fun h => ?_, fun h => ?_, h6, hb.trans (hb2.mono hsz)⟩⟩
    ·obtain ⟨p, e, hp, r⟩ := h4 h; exact ⟨p, e, hp, r.belowAll hb2⟩
    ·obtain ⟨p, e, hp, r⟩ := h5 h; exact ⟨p, e, hp, r.belowAll hb2⟩
   | 2, ho =>
    have ho' := Option.some.inj ho
    subst ho'
    refine opw_load 24 _ rfl (w.heap.size + 1) rfl (rB.below hb (by omega)) 4 _ Try.underlying24 size_nat ?_
    exact .inl ⟨d6, d7, fun _ => rfl, vp, vq, va, vx, _, vy, rfl, h0, h1, fun _ => rfl, h3, h4, h5, h6, hb⟩
   | 3, ho =>
    have ho' := Option.some.inj ho
    subst ho'
    have D2 := hpre ⟨2, .data⟩ (by simp) rfl
    have e0 := h2 D2
    subst e0
    refine opw_call 53 _ _ rfl Try.func53 (by kernel_rfl) #[.agg (natC B)] rfl ?_
    refine (rof_any B w').mono fun e w2 ⟨he, hb2⟩ => ⟨_, he, .inl ⟨d6, d7, fun _ => D2, vp, vq, va, vx, _, _, rfl, h0, h1, fun _ => rfl, fun _ => rfl, fun h => ?_, fun h => ?_, h6, hb.trans (hb2.mono hsz)⟩⟩
    ·obtain ⟨p, e, hp, r⟩ := h4 h; exact ⟨p, e, hp, r.belowAll hb2⟩
    ·obtain ⟨p, e, hp, r⟩ := h5 h; exact ⟨p, e, hp, r.belowAll hb2⟩
   | 4, ho =>
    have ho' := Option.some.inj ho
    subst ho'
    refine opw_alloc 71 rfl _ zero_bits ?_
    refine .inl ⟨d6, d7, d32, _, vq, va, vx, vb, vy, rfl, h0, h1, h2, h3, fun _ => ⟨w'.heap.size, rfl, hsz, Row.new _ _ _⟩, fun h => ?_, fun _ h => ?_, hb.alloc hsz _⟩
    ·obtain ⟨p, e, hp, r⟩ := h5 h; exact ⟨p, e, hp, r.alloc _⟩
    ·obtain ⟨p, e, hp, r⟩ := h5 h
     subst e
     intro e
     have hlt := r.lt
     simp at e
     first | done | omega
   | 5, ho =>
    have ho' := Option.some.inj ho
    subst ho'
    refine opw_alloc 71 rfl _ zero_bits ?_
    refine .inl ⟨d6, d7, d32, vp, _, va, vx, vb, vy, rfl, h0, h1, h2, h3, fun h => ?_, fun _ => ⟨w'.heap.size, rfl, hsz, Row.new _ _ _⟩, fun h _ => ?_, hb.alloc hsz _⟩
    ·obtain ⟨p, e, hp, r⟩ := h4 h; exact ⟨p, e, hp, r.alloc _⟩
    ·obtain ⟨p, e, hp, r⟩ := h4 h
     subst e
     intro e
     have hlt := r.lt
     simp at e
     first | done | omega
   | 6, ho =>
    have ho' := Option.some.inj ho
    subst ho'
    have D0 := hpre ⟨0, .phase⟩ (by simp) rfl
    have D1 := hpre ⟨1, .data⟩ (by simp) rfl
    have D3 := hpre ⟨3, .chain⟩ (by simp) rfl
    have D4 := hpre ⟨4, .data⟩ (by simp) rfl
    have D5 := hpre ⟨5, .phase⟩ (by simp) rfl
    have D2 := d32 D3
    obtain ⟨p, ep, hp, rp⟩ := h4 D4
    obtain ⟨q, eq, hq, rq⟩ := h5 D5
    have hne := h6 D4 D5
    have e0 := h0 D0; have e1 := h1 D1; have e2 := h2 D2; have e3 := h3 D3
    subst ep eq e0 e1 e2 e3
    have hpq : p ≠ q := fun e => hne (by rw [e])
    refine opw_store 71 _ _ rfl p (bitC A) rfl rfl rp (by rw [bitC_size]; exact size_bits) (by simp only [bitC_size]) (bitC_one _) ?_
    refine .inr ⟨fun j hj => ?_, p, q, _, _, _, _, _, _, rfl, rfl, rfl, rfl, rfl, rfl, rfl, hp, hq, hpq, rp.setRow _, ?_, below_setRow hb hp _⟩
    ·match j, hj with
     | 0, _ => exact D0
     | 1, _ => exact D1
     | 2, _ => exact D2
     | 3, _ => exact D3
     | 4, _ => exact D4
     | 5, _ => exact D5
     | 6, _ => rfl
    ·have hr := rq.setRow_far p (bitC A) (Ne.symm hpq)
     rw [if_neg (by show ¬ d 7 = true; rw [d7]; decide)]
     exact hr
   | 7, ho =>
    have ho' := Option.some.inj ho
    subst ho'
    have D6 := hpre ⟨6, .chain⟩ (by simp) rfl
    rw [d6] at D6
    cases D6
   | n + 8, ho => cases ho
  ·match i, ho with
   | 0, _ => rw [hall 0 (by omega)] at hd; cases hd
   | 1, _ => rw [hall 1 (by omega)] at hd; cases hd
   | 2, _ => rw [hall 2 (by omega)] at hd; cases hd
   | 3, _ => rw [hall 3 (by omega)] at hd; cases hd
   | 4, _ => rw [hall 4 (by omega)] at hd; cases hd
   | 5, _ => rw [hall 5 (by omega)] at hd; cases hd
   | 6, _ => rw [hall 6 (by omega)] at hd; cases hd
   | 7, ho =>
    have ho' := Option.some.inj ho
    subst ho'
    rw [if_neg (by rw [hd]; decide)] at rq
    refine opw_store 71 _ _ rfl q (bitC B) rfl rfl rq (by rw [bitC_size]; exact size_bits) (by simp only [bitC_size]) (bitC_one _) ?_
    exact .inr ⟨fun j hj => by show (j == 7 || d j) = true; rw [hall j hj, Bool.or_true], p, q, _, _, _, _, _, _, rfl, rfl, rfl, rfl, rfl, rfl, rfl, hp, hq, hne, rp.setRow_far _ _ hne, (by rw [if_pos (by rfl)]; exact rq.setRow _), below_setRow hb hq _⟩
   | n + 8, ho => cases ho
 case fin =>
  intro d a' w' hI hall
  rcases hI with ⟨d6, _⟩ | ⟨_, p, q, va, vx, vb, vy, vp, vq, rfl, rfl, rfl, rfl, rfl, rfl, rfl, hp, hq, hne, rp, rq, hb⟩
  ·rw [hall 6 (by decide)] at d6; cases d6
  rw [hall 7 (by decide), if_pos rfl] at rq
  have hsz := hb.size
  have bw := bW.trans (hb.mono (by omega))
  have rR' := rR.below hb (by omega)
  go_wp2_with (first
   | refine wpList_build_zero rfl 71 rfl _ built_bits ?_
   | refine wpList_alloc_row rfl 71 rfl _ zero_bits ?_
   | refine wpList_store_new rfl 71 _ _ rfl _ rfl rfl _ _ (by rw [bitC_size]; exact size_bits) (by simp only [bitC_size]) (bitC_one _) ?_)
  have rr := Row.new w' (bitC 0) 71
  have rp' := rp.alloc (.cells (bitC 0) 71)
  have rq' := rq.alloc (.cells (bitC 0) 71)
  have rR2 := rR'.alloc (.cells (bitC 0) 71)
  have bw2 := bw.alloc (by omega) (.cells (bitC 0) 71)
  have hpr := rp.lt
  have hqr := rq.lt
  generalize w'.alloc (.cells (bitC 0) 71) = w1 at *
  generalize w'.heap.size = r at *
  clear rp rq rR' bw hb rA rB rR bW
  go_loopg [9, 10] 256 (fun g s9 s10 wr => ∃ k : Nat, k + g = 256 ∧ s9 = .bool (carry A B k) ∧ s10 = .int .i64 k ∧ Row wr p (bitC A) 71 ∧ Row wr q (bitC B) 71 ∧ Row wr r (bitC ((A + B) % 2 ^ k)) 71 ∧ Row wr (w.heap.size + 1 + 1) (natC 0) 24 ∧ Below w.heap.size w wr)
  case atStart => exact ⟨0, by omega, by rw [carry_zero], rfl, rp', rq', by rw [Nat.pow_zero, Nat.mod_one]; exact rr, rR2, bw2⟩
  case round =>
   obtain ⟨k, hk, rfl, rfl, r1, r2, r3, r4, hb⟩ := hrel
   clear rr rp' rq' rR2 bw2
   cases gk with
   | zero =>
    obtain rfl : k = 256 := by omega
    rw [bitC_full] at r3
    clear hk
    have hx : ¬ ((256 : Int) < 256) := by omega
    have hcn : cN A B 256 = if carry A B 256 = true then 1 else 0 := rfl
    have HC : Hid (cN A B 256 = if carry A B 256 = true then 1 else 0) := hcn
    clear hcn
    cases hc : carry A B 256
    all_goals
     rw [hc] at HC
     clear hc
     go_wp2_with (first
      | refine wpList_load_row rfl 71 _ rfl _ rfl 71 _ (0, 0) _ r3 Try.underlying71 rfl (by rw [bitC_size]; exact size_bits) ?_
      | (go_at_call 69; refine (rnat_any _ _).mono ?_; rintro e w2 ⟨rfl, hb2⟩; have r5 := r4.belowAll hb2; have b5 := hb.trans (hb2.mono (by have := hb.size; omega)))
      | refine wpList_store_row rfl 24 _ _ rfl _ (natC (A + B)) rfl rfl 24 (natC 0) r5 (by exact size_nat) (by rfl) (natC_one _) ?_)
     all_goals exact ret_row2 rfl _ rfl (r5.setRow _) 4 _ Try.underlying24 (by exact size_nat) rfl _ rfl ⟨by rw [HC.out]; rfl, below_setRow b5 (by omega) _⟩
   | succ g =>
    have hlt : (k : Int) < 256 := by omega
    have hc1 := cell_bits r1 k (by omega)
    have hc2 := cell_bits r2 k (by omega)
    have hc3 := cell_bits r3 k (by omega)
    have hf3 := r3.frozen k
    have hbit := add_bit A B k
    have hcs := carry_succ A B k
    generalize A.testBit k = x at *
    generalize B.testBit k = y at *
    generalize carry A B k = c at *
    have R : Aside ((A + B).testBit k = ((x != y) != c) ∧ carry A B (k + 1) = (x && y || c && (x || y)) ∧ Row wr p (bitC A) 71 ∧ Row wr q (bitC B) 71 ∧ Row wr r (bitC ((A + B) % 2 ^ k)) 71 ∧ Row wr (w.heap.size + 1 + 1) (natC 0) 24 ∧ Below w.heap.size w wr) := ⟨hbit, hcs, r1, r2, r3, r4, hb⟩
    clear hbit hcs r1 r2 r3 r4 hb
    cases x <;> cases y <;> cases c
    all_goals
     go_wp2
     go_region
     go_wp2
     obtain ⟨hbit, hcs, r1, r2, r3, r4, hb⟩ := R.out
     go_roundg g
     case measure => omega
     case rel => exact ⟨k + 1, by omega, by rw [hcs]; rfl, by go_num, (r1.setCell_far _ _ _ (by omega)).drew, (r2.setCell_far _ _ _ (by omega)).drew, by rw [← bitC_snoc (A + B) k _ hbit.symm]; exact (r3.setCell _ _).drew, (r4.setCell_far _ _ _ (by omega)).drew, (below_setCell hb (by omega) _ _).drew⟩
end Go.Proofs.Yteddgjoailpgaaa
/- The document's Int: an int as a natural. -/
namespace Go.Proofs.Yteddgjoailpgaaa
open Go.RowKit
set_option maxRecDepth 100000 in
set_option maxHeartbeats 400000 in
theorem rint_no (n : Int) (w : World) (h : n ≤ 0) :
  Calls Try.prog 44 #[.int .i64 n] w fun e w' => e = .returned (.agg (natC n.toNat)) ∧ Below w.heap.size w w' := by
 have hg : ¬ (0 < n) := by omega
 have hd : decide (0 < n) = false := by simpa using hg
 go_enter Try.func44, Try.ntmps44
 go_wp2_with (first
  | refine wpList_alloc_row rfl 24 rfl _ zero_nat ?_
  | refine wpList_alloc_row rfl 71 rfl _ zero_bits ?_
  | refine wpList_build_zero rfl 71 rfl _ built_bits ?_
  | refine wpList_store_new rfl 71 _ _ rfl _ rfl rfl _ _ (by rw [bitC_size]; exact size_bits) (by simp only [bitC_size]) (bitC_one _) ?_)
 go_loopg [4] 0 (fun g s4 wr => s4 = .int .i64 0 ∧ Row wr (w.heap.size + 1) (bitC 0) 71 ∧ Row wr w.heap.size (natC 0) 24 ∧ Below w.heap.size w wr)
 case atStart => exact ⟨rfl, Row.here (by simp), Row.one rfl, below_alloc2 _ _⟩
 case round =>
  obtain ⟨rfl, r0, r1, hb⟩ := hrel
  go_wp2_with (first
   | refine wpList_loadR rfl 71 _ rfl _ rfl r0 256 _ Try.underlying71 (by rw [bitC_size]; exact size_bits) ?_
   | (go_at_call 69; refine (rnat_any _ _).mono ?_; rintro e w2 ⟨rfl, hb2⟩; have r5 := r1.belowAll hb2; have b5 := below_on hb (Nat.le_refl _) hb2)
   | refine wpList_storeR rfl 24 _ _ rfl _ _ rfl rfl r5 (by exact size_nat) (by simp only [natC_size]) (natC_one _) ?_)
  rw [show n.toNat = 0 by omega]
  exact ret_row rfl _ rfl (r5.setRow _) 4 _ Try.underlying24 (by exact size_nat) rfl ⟨rfl, below_setRow b5 (by omega) _⟩
set_option maxRecDepth 100000 in
set_option maxHeartbeats 400000 in
theorem rint_yes (N : Nat) (w : World) (h0 : 0 < N) (h1 : N < 9223372036854775808) :
  Calls Try.prog 44 #[.int .i64 N] w fun e w' => e = .returned (.agg (natC N)) ∧ Below w.heap.size w w' := by
 have hg : (0 : Int) < N := by omega
 have H1 : Hid (N < 9223372036854775808) := h1
 clear h1 h0
 go_enter Try.func44, Try.ntmps44
 go_wp2_with (first
  | refine wpList_alloc_row rfl 24 rfl _ zero_nat ?_
  | refine wpList_alloc_row rfl 71 rfl _ zero_bits ?_
  | refine wpList_build_zero rfl 71 rfl _ built_bits ?_
  | refine wpList_store_new rfl 71 _ _ rfl _ rfl rfl _ _ (by rw [bitC_size]; exact size_bits) (by simp only [bitC_size]) (bitC_one _) ?_)
 go_loopg [4] 63 (fun g s4 wr => ∃ k : Nat, k + g = 63 ∧ s4 = .int .i64 k ∧ Row wr (w.heap.size + 1) (bitC (N % 2 ^ k)) 71 ∧ Row wr w.heap.size (natC 0) 24 ∧ Below w.heap.size w wr)
 case atStart => exact ⟨0, by omega, rfl, by rw [Nat.pow_zero, Nat.mod_one]; exact Row.here (by simp), Row.one rfl, below_alloc2 _ _⟩
 case round =>
  obtain ⟨k, hk, rfl, r0, r1, hb⟩ := hrel
  cases gk with
  | zero =>
   obtain rfl : k = 63 := by omega
   rw [Nat.mod_eq_of_lt (show N < 2 ^ 63 from H1.out)] at r0
   clear hk
   have hx : ¬ ((63 : Int) < 63) := by omega
   go_wp2_with (first
    | refine wpList_loadR rfl 71 _ rfl _ rfl r0 256 _ Try.underlying71 (by rw [bitC_size]; exact size_bits) ?_
    | (go_at_call 69; refine (rnat_any _ _).mono ?_; rintro e w2 ⟨rfl, hb2⟩; have r5 := r1.belowAll hb2; have b5 := below_on hb (Nat.le_refl _) hb2)
    | refine wpList_storeR rfl 24 _ _ rfl _ _ rfl rfl r5 (by exact size_nat) (by simp only [natC_size]) (natC_one _) ?_)
   exact ret_row rfl _ rfl (r5.setRow _) 4 _ Try.underlying24 (by exact size_nat) rfl ⟨rfl, below_setRow b5 (by omega) _⟩
  | succ g =>
   have hlt : (k : Int) < 63 := by omega
   have hlt' : (k : Int) < 256 := by omega
   have hc0 := cell_bits r0 k (by omega)
   have hf0 := r0.frozen k
   have R : Aside (Row wr (w.heap.size + 1) (bitC (N % 2 ^ k)) 71 ∧ Row wr w.heap.size (natC 0) 24 ∧ Below w.heap.size w wr) := ⟨r0, r1, hb⟩
   clear r0 r1 hb
   go_wp2
   obtain ⟨r0, r1, hb⟩ := R.out
   go_roundg g
   case measure => omega
   case rel =>
    refine ⟨k + 1, by omega, by go_num, ?_, r1.setCell_far _ _ _ (by omega), below_setCell hb (by omega) _ _⟩
    have := r0.setCell k (.bool (bits BinOp.and IntKind.i64 (↑N / 2 ^ k) 1 == 1))
    rw [bitC_snoc N k _ (bit_test_i _ _ H1.out)] at this
    exact this
theorem rint_any (n : Int) (w : World) (h : n < 9223372036854775808) :
  Calls Try.prog 44 #[.int .i64 n] w fun e w' => e = .returned (.agg (natC n.toNat)) ∧ Below w.heap.size w w' := by
 by_cases h0 : n ≤ 0
 ·exact rint_no n w h0
 ·obtain ⟨N, rfl⟩ := Int.eq_ofNat_of_zero_le (show 0 ≤ n by omega)
  rw [Int.toNat_natCast]
  exact rint_yes N w (by omega) (by omega)
end Go.Proofs.Yteddgjoailpgaaa
/- The document's Not: all bits turned. -/
namespace Go.Proofs.Yteddgjoailpgaaa
open Go.RowKit
/-- All 256 bits turned. -/
def flip (N : Nat) : Nat := 2 ^ 256 - 1 - N % 2 ^ 256
theorem flip_bit (N i : Nat) (h : i < 256) : (flip N).testBit i = !N.testBit i := by
 unfold flip
 have hlt : N % 2 ^ 256 < 2 ^ 256 := Nat.mod_lt _ (Nat.two_pow_pos _)
 rw [Nat.sub_sub, Nat.add_comm 1, Nat.testBit_two_pow_sub_succ hlt, Nat.testBit_mod_two_pow]
 simp [h]
/-- The first k bits turned. -/
def flipTo (N k : Nat) : Nat := flip N % 2 ^ k + N / 2 ^ k * 2 ^ k
theorem flipTo_bit (N k i : Nat) : (flipTo N k).testBit i = if i < k then (flip N).testBit i else N.testBit i := by
 unfold flipTo
 rw [Nat.add_comm, Nat.mul_comm, Nat.testBit_two_pow_mul_add _ (Nat.mod_lt _ (Nat.two_pow_pos k))]
 split
 ·rw [Nat.testBit_mod_two_pow]; simp [*]
 ·rw [Nat.testBit_div_two_pow]; congr 1; omega
set_option maxRecDepth 100000 in
set_option maxHeartbeats 400000 in
theorem rnot_any (N : Nat) (w : World) :
  Calls Try.prog 73 #[.agg (natC N)] w fun e w' => e = .returned (.agg (natC (flip N))) ∧ Below w.heap.size w w' := by
 go_enter Try.func73, Try.ntmps73
 go_wp2_with (first
  | refine wpList_box_row rfl 24 _ rfl _ rfl ?_
  | refine wpList_alloc_row rfl 24 rfl _ zero_nat ?_
  | refine wpList_loadR rfl 24 _ rfl _ rfl (by first | assumption | (refine Row.here ?_; first | (with_reducible rfl) | (simp; done)) | (refine Row.one ?_; first | (with_reducible rfl) | (simp; done)) | (refine Row.two ?_; first | (with_reducible rfl) | (simp; done))) 4 _ Try.underlying24 (by exact size_nat) ?_
  | (go_at_call 53; refine (rof_any _ _).mono ?_; rintro e w2 ⟨rfl, hb2⟩; have hs := hb2.size; have r2 := (Row.here (w := w.alloc (.cells (natC N) 24)) (c := natC 0) (t := 24) (b := w.heap.size + 1) (by simp)).belowAll hb2; have b2 := below_on (below_alloc2 _ _) (Nat.le_refl _) hb2; clear hb2)
  | refine wpList_alloc_row rfl 71 rfl _ zero_bits ?_
  | refine wpList_store_new rfl 71 _ _ rfl _ rfl rfl _ _ (by rw [bitC_size]; exact size_bits) (by simp only [bitC_size]) (bitC_one _) ?_)
 have r3 := Row.new w2 (bitC N) 71
 have r2' := r2.alloc (.cells (bitC N) 71)
 have hr := r2.lt
 have b3 := b2.alloc (by have := b2.size; omega) (.cells (bitC N) 71)
 generalize w2.alloc (.cells (bitC N) 71) = w3 at *
 generalize w2.heap.size = r at *
 clear r2 b2 hs
 go_loopg [4] 256 (fun g s4 wr => ∃ k : Nat, k + g = 256 ∧ s4 = .int .i64 k ∧ Row wr r (bitC (flipTo N k)) 71 ∧ Row wr (w.heap.size + 1) (natC 0) 24 ∧ Below w.heap.size w wr)
 case atStart => exact ⟨0, by omega, rfl, by rw [show flipTo N 0 = N by simp [flipTo, Nat.mod_one]]; exact r3, r2', b3⟩
 case round =>
  obtain ⟨k, hk, rfl, r0, r1, hb⟩ := hrel
  clear r3 r2' b3
  cases gk with
  | zero =>
   obtain rfl : k = 256 := by omega
   rw [show bitC (flipTo N 256) = bitC (flip N) by rw [← bitC_set (flipTo N 256) (flip N) 256 true (fun i hi => by rw [if_neg (by omega), flipTo_bit, if_pos hi])]; rw [Array.setIfInBounds_eq_of_size_le (by rw [bitC_size]; omega)]] at r0
   clear hk
   have hx : ¬ ((256 : Int) < 256) := by omega
   go_wp2_with (first
    | refine wpList_loadR rfl 71 _ rfl _ rfl r0 256 _ Try.underlying71 (by rw [bitC_size]; exact size_bits) ?_
    | (go_at_call 69; refine (rnat_any _ _).mono ?_; rintro e w2 ⟨rfl, hb2⟩; have r5 := r1.belowAll hb2; have b5 := below_on hb (Nat.le_refl _) hb2)
    | refine wpList_storeR rfl 24 _ _ rfl _ _ rfl rfl r5 (by exact size_nat) (by simp only [natC_size]) (natC_one _) ?_)
   exact ret_row rfl _ rfl (r5.setRow _) 4 _ Try.underlying24 (by exact size_nat) rfl ⟨rfl, below_setRow b5 (by omega) _⟩
  | succ g =>
   have hlt : (k : Int) < 256 := by omega
   have hc0 := cell_bits r0 k (by omega)
   have hf0 := r0.frozen k
   have hbit : (flipTo N k).testBit k = N.testBit k := by rw [flipTo_bit, if_neg (by omega)]
   rw [hbit] at hc0
   have R : Aside (Row wr r (bitC (flipTo N k)) 71 ∧ Row wr (w.heap.size + 1) (natC 0) 24 ∧ Below w.heap.size w wr) := ⟨r0, r1, hb⟩
   clear r0 r1 hb hbit
   go_wp2
   obtain ⟨r0, r1, hb⟩ := R.out
   go_roundg g
   case measure => omega
   case rel =>
    refine ⟨k + 1, by omega, by go_num, ?_, r1.setCell_far _ _ _ (by omega), below_setCell hb (by omega) _ _⟩
    have := r0.setCell k (.bool (!N.testBit k))
    rw [bitC_set (flipTo N k) (flipTo N (k + 1)) k _ (fun i hi => by
     rw [flipTo_bit, flipTo_bit]
     by_cases e : i = k
     ·subst e; rw [if_pos (by omega), if_pos rfl, flip_bit _ _ (by omega)]
     ·rw [if_neg e]
      by_cases h1 : i < k
      ·rw [if_pos (by omega), if_pos h1]
      ·rw [if_neg (by omega), if_neg h1])] at this
    exact this
end Go.Proofs.Yteddgjoailpgaaa
/- The document's Cmp and Sub. -/
namespace Go.Proofs.Yteddgjoailpgaaa
open Go.RowKit
/-- Which of two is greater. -/
def cmpI (A B : Nat) : Int := if A < B then -1 else if B < A then 1 else 0
/-- What two naturals that are the same from bit g + 1 on say at bit g. -/
theorem cmp_step (A B g : Nat) (h : A / 2 ^ (g + 1) = B / 2 ^ (g + 1)) :
  (A.testBit g = B.testBit g → A / 2 ^ g = B / 2 ^ g) ∧ (A.testBit g = true → B.testBit g = false → B < A) ∧ (A.testBit g = false → B.testBit g = true → A < B) := by
 have hP := Nat.two_pow_pos g
 rw [Nat.pow_succ, ← Nat.div_div_eq_div_mul, ← Nat.div_div_eq_div_mul] at h
 have ha := Nat.div_add_mod A (2 ^ g)
 have hb := Nat.div_add_mod B (2 ^ g)
 have ma := Nat.mod_lt A hP
 have mb := Nat.mod_lt B hP
 have key : ∀ x y P a b : Nat, 0 < P → a < P → b < P → x < y → P * x + a < P * y + b := by
  intro x y P a b h0 h1 _ h3
  have : P * (x + 1) ≤ P * y := Nat.mul_le_mul_left P h3
  rw [Nat.mul_add] at this
  omega
 rcases bit_cases A g with ⟨h1, h2, _⟩ | ⟨h1, h2, _⟩ <;> rcases bit_cases B g with ⟨h3, h4, _⟩ | ⟨h3, h4, _⟩ <;> rw [h1, h3] <;> simp
 ·omega
 ·have := key (A / 2 ^ g) (B / 2 ^ g) _ _ _ hP ma mb (by omega)
  omega
 ·have := key (B / 2 ^ g) (A / 2 ^ g) _ _ _ hP mb ma (by omega)
  omega
 ·omega
set_option maxRecDepth 100000 in
set_option maxHeartbeats 1000000 in
theorem rcmp_any (A B : Nat) (w : World) (hA : A < 2 ^ 256) (hB : B < 2 ^ 256) :
  Calls Try.prog 17 #[.agg (natC A), .agg (natC B)] w fun e w' => e = .returned (.int .i64 (cmpI A B)) ∧ Below w.heap.size w w' := by
 have HAB : Hid (A / 2 ^ 256 = B / 2 ^ 256) := by show _ = _; rw [Nat.div_eq_of_lt hA, Nat.div_eq_of_lt hB]
 clear hA hB
 go_enter Try.func17, Try.ntmps17
 go_wp2_with (first
  | refine wpList_box_row rfl 24 _ rfl _ rfl ?_)
 have hW : ((w.alloc (Obj.cells (natC A) 24)).alloc (Obj.cells (natC B) 24)).heap.size = w.heap.size + 2 := by simp
 have rA : Row ((w.alloc (Obj.cells (natC A) 24)).alloc (Obj.cells (natC B) 24)) w.heap.size (natC A) 24 := Row.one rfl
 have rB : Row ((w.alloc (Obj.cells (natC A) 24)).alloc (Obj.cells (natC B) 24)) (w.heap.size + 1) (natC B) 24 := Row.here (by simp)
 have bW : Below w.heap.size w ((w.alloc (Obj.cells (natC A) 24)).alloc (Obj.cells (natC B) 24)) := below_alloc2 _ _
 generalize ((w.alloc (Obj.cells (natC A) 24)).alloc (Obj.cells (natC B) 24)) = W at *
 refine wp_region_inv0 (by kernel_rfl) (fun d a' w' =>
  (d 6 = false ∧ d 7 = false ∧ (d 3 = true → d 2 = true) ∧ ∃ vp vq va vx vb vy : Value, a' = ({ tmps := List.toArray ((.agg (natC A)) :: (.agg (natC B)) :: (.pointer (some ⟨w.heap.size, 0, none⟩)) :: (.pointer (some ⟨w.heap.size + 1, 0, none⟩)) :: (.int .i64 0) :: vp :: vq :: undef :: va :: vx :: vb :: vy :: undef :: undef :: undef :: undef :: undef :: undef :: undef :: undef :: undef :: undef :: undef :: undef :: undef :: undef :: []), defers := [] } : Act) ∧
   (d 0 = true → va = .agg (natC A)) ∧ (d 1 = true → vx = .agg (bitC A)) ∧ (d 2 = true → vb = .agg (natC B)) ∧ (d 3 = true → vy = .agg (bitC B)) ∧
   (d 4 = true → ∃ p, vp = .pointer (some ⟨p, 0, none⟩) ∧ w.heap.size + 2 ≤ p ∧ Row w' p (bitC 0) 71) ∧ (d 5 = true → ∃ q, vq = .pointer (some ⟨q, 0, none⟩) ∧ w.heap.size + 2 ≤ q ∧ Row w' q (bitC 0) 71) ∧
   (d 4 = true → d 5 = true → vp ≠ vq) ∧ Below (w.heap.size + 2) W w') ∨
  ((∀ j, j < 7 → d j = true) ∧ ∃ p q va vx vb vy, ∃ vp vq : Value, vp = .pointer (some ⟨p, 0, none⟩) ∧ vq = .pointer (some ⟨q, 0, none⟩) ∧ va = .agg (natC A) ∧ vx = .agg (bitC A) ∧ vb = .agg (natC B) ∧ vy = .agg (bitC B) ∧ a' = ({ tmps := List.toArray ((.agg (natC A)) :: (.agg (natC B)) :: (.pointer (some ⟨w.heap.size, 0, none⟩)) :: (.pointer (some ⟨w.heap.size + 1, 0, none⟩)) :: (.int .i64 0) :: vp :: vq :: undef :: va :: vx :: vb :: vy :: undef :: undef :: undef :: undef :: undef :: undef :: undef :: undef :: undef :: undef :: undef :: undef :: undef :: undef :: []), defers := [] } : Act) ∧
   w.heap.size + 2 ≤ p ∧ w.heap.size + 2 ≤ q ∧ p ≠ q ∧ Row w' p (bitC A) 71 ∧ Row w' q (if d 7 = true then bitC B else bitC 0) 71 ∧ Below (w.heap.size + 2) W w')) (by kernel_rfl) ?start ?step ?fin
 case start => exact .inl ⟨rfl, rfl, nofun, undef, undef, undef, undef, undef, undef, rfl, nofun, nofun, nofun, nofun, nofun, nofun, nofun, (Below.refl _ _).drew⟩
 case step =>
  intro i o ho d a' w' hI hd hpre
  rcases hI with ⟨d6, d7, d32, vp, vq, va, vx, vb, vy, rfl, h0, h1, h2, h3, h4, h5, h6, hb⟩ | ⟨hall, p, q, va, vx, vb, vy, vp, vq, rfl, rfl, rfl, rfl, rfl, rfl, rfl, hp, hq, hne, rp, rq, hb⟩
  ·have hsz : w.heap.size + 2 ≤ w'.heap.size := by have := hb.size; omega
   match i, ho with
   | 0, ho =>
    have ho' := Option.some.inj ho
    subst ho'
    refine opw_load 24 _ rfl w.heap.size rfl (rA.below hb (by omega)) 4 _ Try.underlying24 size_nat ?_
    exact .inl ⟨d6, d7, d32, vp, vq, _, vx, vb, vy, rfl, fun _ => rfl, h1, h2, h3, h4, h5, h6, hb⟩
   | 1, ho =>
    have ho' := Option.some.inj ho
    subst ho'
    have e0 := h0 (hpre ⟨0, .data⟩ (by simp) rfl)
    subst e0
    refine opw_call 53 _ _ rfl Try.func53 (by kernel_rfl) #[.agg (natC A)] rfl ?_
    refine (rof_any A w').mono fun e w2 ⟨he, hb2⟩ => ⟨_, he, .inl ⟨d6, d7, d32, vp, vq, _, _, vb, vy, rfl, fun _ => rfl, fun _ => rfl, h2, h3, fun h => ?_, fun h => ?_, h6, hb.trans (hb2.mono hsz)⟩⟩
    ·obtain ⟨p, e, hp, r⟩ := h4 h; exact ⟨p, e, hp, r.belowAll hb2⟩
    ·obtain ⟨p, e, hp, r⟩ := h5 h; exact ⟨p, e, hp, r.belowAll hb2⟩
   | 2, ho =>
    have ho' := Option.some.inj ho
    subst ho'
    refine opw_load 24 _ rfl (w.heap.size + 1) rfl (rB.below hb (by omega)) 4 _ Try.underlying24 size_nat ?_
    exact .inl ⟨d6, d7, fun _ => rfl, vp, vq, va, vx, _, vy, rfl, h0, h1, fun _ => rfl, h3, h4, h5, h6, hb⟩
   | 3, ho =>
    have ho' := Option.some.inj ho
    subst ho'
    have D2 := hpre ⟨2, .data⟩ (by simp) rfl
    have e0 := h2 D2
    subst e0
    refine opw_call 53 _ _ rfl Try.func53 (by kernel_rfl) #[.agg (natC B)] rfl ?_
    refine (rof_any B w').mono fun e w2 ⟨he, hb2⟩ => ⟨_, he, .inl ⟨d6, d7, fun _ => D2, vp, vq, va, vx, _, _, rfl, h0, h1, fun _ => rfl, fun _ => rfl, fun h => ?_, fun h => ?_, h6, hb.trans (hb2.mono hsz)⟩⟩
    ·obtain ⟨p, e, hp, r⟩ := h4 h; exact ⟨p, e, hp, r.belowAll hb2⟩
    ·obtain ⟨p, e, hp, r⟩ := h5 h; exact ⟨p, e, hp, r.belowAll hb2⟩
   | 4, ho =>
    have ho' := Option.some.inj ho
    subst ho'
    refine opw_alloc 71 rfl _ zero_bits ?_
    refine .inl ⟨d6, d7, d32, _, vq, va, vx, vb, vy, rfl, h0, h1, h2, h3, fun _ => ⟨w'.heap.size, rfl, hsz, Row.new _ _ _⟩, fun h => ?_, fun _ h => ?_, hb.alloc hsz _⟩
    ·obtain ⟨p, e, hp, r⟩ := h5 h; exact ⟨p, e, hp, r.alloc _⟩
    ·obtain ⟨p, e, hp, r⟩ := h5 h
     subst e
     intro e
     have hlt := r.lt
     simp at e
     first | done | omega
   | 5, ho =>
    have ho' := Option.some.inj ho
    subst ho'
    refine opw_alloc 71 rfl _ zero_bits ?_
    refine .inl ⟨d6, d7, d32, vp, _, va, vx, vb, vy, rfl, h0, h1, h2, h3, fun h => ?_, fun _ => ⟨w'.heap.size, rfl, hsz, Row.new _ _ _⟩, fun h _ => ?_, hb.alloc hsz _⟩
    ·obtain ⟨p, e, hp, r⟩ := h4 h; exact ⟨p, e, hp, r.alloc _⟩
    ·obtain ⟨p, e, hp, r⟩ := h4 h
     subst e
     intro e
     have hlt := r.lt
     simp at e
     first | done | omega
   | 6, ho =>
    have ho' := Option.some.inj ho
    subst ho'
    have D0 := hpre ⟨0, .phase⟩ (by simp) rfl
    have D1 := hpre ⟨1, .data⟩ (by simp) rfl
    have D3 := hpre ⟨3, .chain⟩ (by simp) rfl
    have D4 := hpre ⟨4, .data⟩ (by simp) rfl
    have D5 := hpre ⟨5, .phase⟩ (by simp) rfl
    have D2 := d32 D3
    obtain ⟨p, ep, hp, rp⟩ := h4 D4
    obtain ⟨q, eq, hq, rq⟩ := h5 D5
    have hne := h6 D4 D5
    have e0 := h0 D0; have e1 := h1 D1; have e2 := h2 D2; have e3 := h3 D3
    subst ep eq e0 e1 e2 e3
    have hpq : p ≠ q := fun e => hne (by rw [e])
    refine opw_store 71 _ _ rfl p (bitC A) rfl rfl rp (by rw [bitC_size]; exact size_bits) (by simp only [bitC_size]) (bitC_one _) ?_
    refine .inr ⟨fun j hj => ?_, p, q, _, _, _, _, _, _, rfl, rfl, rfl, rfl, rfl, rfl, rfl, hp, hq, hpq, rp.setRow _, ?_, below_setRow hb hp _⟩
    ·match j, hj with
     | 0, _ => exact D0
     | 1, _ => exact D1
     | 2, _ => exact D2
     | 3, _ => exact D3
     | 4, _ => exact D4
     | 5, _ => exact D5
     | 6, _ => rfl
    ·have hr := rq.setRow_far p (bitC A) (Ne.symm hpq)
     rw [if_neg (by show ¬ d 7 = true; rw [d7]; decide)]
     exact hr
   | 7, ho =>
    have ho' := Option.some.inj ho
    subst ho'
    have D6 := hpre ⟨6, .chain⟩ (by simp) rfl
    rw [d6] at D6
    cases D6
   | n + 8, ho => cases ho
  ·match i, ho with
   | 0, _ => rw [hall 0 (by omega)] at hd; cases hd
   | 1, _ => rw [hall 1 (by omega)] at hd; cases hd
   | 2, _ => rw [hall 2 (by omega)] at hd; cases hd
   | 3, _ => rw [hall 3 (by omega)] at hd; cases hd
   | 4, _ => rw [hall 4 (by omega)] at hd; cases hd
   | 5, _ => rw [hall 5 (by omega)] at hd; cases hd
   | 6, _ => rw [hall 6 (by omega)] at hd; cases hd
   | 7, ho =>
    have ho' := Option.some.inj ho
    subst ho'
    rw [if_neg (by rw [hd]; decide)] at rq
    refine opw_store 71 _ _ rfl q (bitC B) rfl rfl rq (by rw [bitC_size]; exact size_bits) (by simp only [bitC_size]) (bitC_one _) ?_
    exact .inr ⟨fun j hj => by show (j == 7 || d j) = true; rw [hall j hj, Bool.or_true], p, q, _, _, _, _, _, _, rfl, rfl, rfl, rfl, rfl, rfl, rfl, hp, hq, hne, rp.setRow_far _ _ hne, (by rw [if_pos (by rfl)]; exact rq.setRow _), below_setRow hb hq _⟩
   | n + 8, ho => cases ho
 case fin =>
  intro d a' w' hI hall
  rcases hI with ⟨d6, _⟩ | ⟨_, p, q, va, vx, vb, vy, vp, vq, rfl, rfl, rfl, rfl, rfl, rfl, rfl, hp, hq, hne, rp, rq, hb⟩
  ·rw [hall 6 (by decide)] at d6; cases d6
  rw [hall 7 (by decide), if_pos rfl] at rq
  have hsz := hb.size
  have bw := bW.trans (hb.mono (by omega))
  clear hb rA rB bW hall
  go_wp2
  go_loopg [7] 256 (fun g s7 wr => s7 = .int .i64 ((g : Int) - 1) ∧ A / 2 ^ g = B / 2 ^ g ∧ g ≤ 256 ∧ Row wr p (bitC A) 71 ∧ Row wr q (bitC B) 71 ∧ Below w.heap.size w wr)
  case atStart => exact ⟨rfl, HAB.out, Nat.le_refl _, rp, rq, bw⟩
  case round =>
   obtain ⟨rfl, hdiv, hle, r1, r2, hb⟩ := hrel
   clear rp rq bw HAB
   cases gk with
   | zero =>
    rw [Nat.pow_zero, Nat.div_one, Nat.div_one] at hdiv
    subst hdiv
    clear hle
    have hx : ¬ ((0 : Int) ≤ -1) := by omega
    go_wp2
    go_ret
    exact ⟨by simp [cmpI], hb⟩
   | succ g =>
    have hstep := cmp_step A B g hdiv
    have hc1 := cell_bits r1 g (by omega)
    have hc2 := cell_bits r2 g (by omega)
    rw [show ((g + 1 : Nat) : Int) - 1 = (g : Int) by omega]
    have hgl : (g : Int) < 256 := by omega
    generalize A.testBit g = x at *
    generalize B.testBit g = y at *
    have R : Aside (((x = y → A / 2 ^ g = B / 2 ^ g) ∧ (x = true → y = false → B < A) ∧ (x = false → y = true → A < B)) ∧ Row wr p (bitC A) 71 ∧ Row wr q (bitC B) 71 ∧ Below w.heap.size w wr) := ⟨hstep, r1, r2, hb⟩
    clear hstep r1 r2 hb hdiv
    cases x <;> cases y
    ·go_wp2
     go_region
     go_wp2
     obtain ⟨h1, r1, r2, hb⟩ := R.out
     go_roundg g
     case measure => omega
     case rel => exact ⟨rfl, h1.1 (by simp), by omega, r1, r2, hb.drew⟩
    ·go_wp2
     go_region
     go_wp2
     obtain ⟨h1, r1, r2, hb⟩ := R.out
     go_ret
     exact ⟨by rw [cmpI, if_pos (h1.2.2 (by simp) (by simp))]; rfl, hb.drew⟩
    ·go_wp2
     go_region
     go_wp2
     obtain ⟨h1, r1, r2, hb⟩ := R.out
     go_ret
     have hlt := h1.2.1 (by simp) (by simp)
     exact ⟨by rw [cmpI, if_neg (by omega), if_pos hlt]; rfl, hb.drew⟩
    ·go_wp2
     go_region
     go_wp2
     obtain ⟨h1, r1, r2, hb⟩ := R.out
     go_roundg g
     case measure => omega
     case rel => exact ⟨rfl, h1.1 (by simp), by omega, r1, r2, hb.drew⟩
end Go.Proofs.Yteddgjoailpgaaa
/- The document's Len, Bit and Low. -/
namespace Go.Proofs.Yteddgjoailpgaaa
open Go.RowKit
theorem bitLen_eq (A g : Nat) (h1 : 2 ^ g ≤ A) (h2 : A < 2 ^ (g + 1)) : bitLen A = g + 1 := by
 have h0 : A ≠ 0 := by have := Nat.two_pow_pos g; omega
 unfold bitLen
 rw [if_neg h0, (Nat.log2_eq_iff h0).2 ⟨h1, h2⟩]
theorem bit_top (A g : Nat) (h2 : A < 2 ^ (g + 1)) : (A.testBit g = true → 2 ^ g ≤ A) ∧ (A.testBit g = false → A < 2 ^ g) := by
 constructor
 ·intro h
  exact Nat.ge_two_pow_of_testBit h
 ·intro h
  rcases bit_cases A g with ⟨_, _, h3⟩ | ⟨h3, _⟩
  ·rw [Nat.mod_eq_of_lt h2] at h3
   rw [h3]
   exact Nat.mod_lt _ (Nat.two_pow_pos g)
  ·rw [h] at h3; cases h3
/-- One bit, as an int. -/
def bitI (A : Nat) (k : Int) : Int := if 0 ≤ k ∧ k < 256 ∧ A.testBit k.toNat = true then 1 else 0
set_option maxRecDepth 100000 in
set_option maxHeartbeats 400000 in
theorem rlen_any (A : Nat) (w : World) (hA : A < 2 ^ 256) :
  Calls Try.prog 60 #[.agg (natC A)] w fun e w' => e = .returned (.int .i64 (bitLen A)) ∧ Below w.heap.size w w' := by
 have HA : Hid (A < 2 ^ 256) := hA
 clear hA
 go_enter Try.func60, Try.ntmps60
 go_wp2_with (first
  | refine wpList_box_row rfl 24 _ rfl _ rfl ?_
  | refine wpList_loadR rfl 24 _ rfl _ rfl (by first | assumption | (refine Row.here ?_; first | (with_reducible rfl) | (simp; done)) | (refine Row.one ?_; first | (with_reducible rfl) | (simp; done)) | (refine Row.two ?_; first | (with_reducible rfl) | (simp; done))) 4 _ Try.underlying24 (by exact size_nat) ?_
  | (go_at_call 53; refine (rof_any _ _).mono ?_; rintro e w2 ⟨rfl, hb2⟩; have hs := hb2.size; have b2 := below_on (below_alloc _) (Nat.le_refl _) hb2; clear hb2)
  | refine wpList_alloc_row rfl 71 rfl _ zero_bits ?_
  | refine wpList_store_new rfl 71 _ _ rfl _ rfl rfl _ _ (by rw [bitC_size]; exact size_bits) (by simp only [bitC_size]) (bitC_one _) ?_)
 have r3 := Row.new w2 (bitC A) 71
 have b3 := b2.alloc b2.size (.cells (bitC A) 71)
 generalize w2.alloc (.cells (bitC A) 71) = w3 at *
 generalize w2.heap.size = r at *
 clear b2 hs
 go_loopg [4] 256 (fun g s4 wr => s4 = .int .i64 ((g : Int) - 1) ∧ A < 2 ^ g ∧ g ≤ 256 ∧ Row wr r (bitC A) 71 ∧ Below w.heap.size w wr)
 case atStart => exact ⟨rfl, HA.out, Nat.le_refl _, r3, b3⟩
 case round =>
  obtain ⟨rfl, hlt, hle, r0, hb⟩ := hrel
  clear r3 b3 HA
  cases gk with
  | zero =>
   obtain rfl : A = 0 := by simpa using hlt
   clear hlt hle
   have hx : ¬ ((0 : Int) ≤ -1) := by omega
   go_wp2
   go_ret
   exact ⟨rfl, hb⟩
  | succ g =>
   have ht := bit_top A g hlt
   have hq := bitLen_eq A g
   have hc0 := cell_bits r0 g (by omega)
   rw [show ((g + 1 : Nat) : Int) - 1 = (g : Int) by omega]
   have hgl : (g : Int) < 256 := by omega
   cases hbit : A.testBit g
   ·rw [hbit] at hc0
    have R : Aside (A < 2 ^ g ∧ Row wr r (bitC A) 71 ∧ Below w.heap.size w wr) := ⟨ht.2 hbit, r0, hb⟩
    clear ht hq r0 hb hlt hbit
    go_wp2
    obtain ⟨h1, r0, hb⟩ := R.out
    go_roundg g
    case measure => omega
    case rel => exact ⟨rfl, h1, by omega, r0, hb⟩
   ·rw [hbit] at hc0
    have R : Aside (bitLen A = g + 1 ∧ Below w.heap.size w wr) := ⟨hq (ht.1 hbit) hlt, hb⟩
    clear ht hq r0 hb hlt hbit
    go_wp2
    go_ret
    exact ⟨by rw [R.out.1]; rfl, R.out.2⟩
set_option maxRecDepth 100000 in
set_option maxHeartbeats 400000 in
theorem rbit_in (A k : Nat) (w : World) (hk : k < 256) :
  Calls Try.prog 89 #[.agg (natC A), .int .i64 k] w fun e w' => e = .returned (.int .i64 (if A.testBit k = true then 1 else 0)) ∧ Below w.heap.size w w' := by
 have hk' : (k : Int) < 256 := by omega
 cases hbit : A.testBit k
 all_goals
  have HB : Hid (A.testBit k = _) := hbit
  clear hbit
  go_enter Try.func89, Try.ntmps89
  go_wp2_with (first
   | refine wpList_box_row rfl 24 _ rfl _ rfl ?_
   | refine wpList_loadR rfl 24 _ rfl _ rfl (by first | assumption | (refine Row.here ?_; first | (with_reducible rfl) | (simp; done)) | (refine Row.one ?_; first | (with_reducible rfl) | (simp; done)) | (refine Row.two ?_; first | (with_reducible rfl) | (simp; done))) 4 _ Try.underlying24 (by exact size_nat) ?_
   | (go_at_call 53; refine (rof_any _ _).mono ?_; rintro e w2 ⟨rfl, hb2⟩; have b2 := (below_on (below_alloc _) (Nat.le_refl _) hb2).alloc (by have := hb2.size; simp at this; omega) (.cells (bitC A) 71); clear hb2; have hc0 := cell_bits (Row.new w2 (bitC A) 71) k hk; rw [HB.out] at hc0)
   | refine wpList_alloc_row rfl 71 rfl _ zero_bits ?_
   | refine wpList_store_new rfl 71 _ _ rfl _ rfl rfl _ _ (by rw [bitC_size]; exact size_bits) (by simp only [bitC_size]) (bitC_one _) ?_)
  go_ret
  exact ⟨rfl, b2⟩
set_option maxRecDepth 100000 in
set_option maxHeartbeats 400000 in
theorem rbit_out (A : Nat) (k : Int) (w : World) (hk : k < 0 ∨ 256 ≤ k) :
  Calls Try.prog 89 #[.agg (natC A), .int .i64 k] w fun e w' => e = .returned (.int .i64 0) ∧ Below w.heap.size w w' := by
 rcases hk with hk | hk
 ·have h1 : ¬ (0 ≤ k) := by omega
  have h2 : decide (0 ≤ k) = false := by simpa using h1
  go_enter Try.func89, Try.ntmps89
  go_wp2_with (first
   | refine wpList_box_row rfl 24 _ rfl _ rfl ?_
   | refine wpList_loadR rfl 24 _ rfl _ rfl (by first | assumption | (refine Row.here ?_; first | (with_reducible rfl) | (simp; done)) | (refine Row.one ?_; first | (with_reducible rfl) | (simp; done)) | (refine Row.two ?_; first | (with_reducible rfl) | (simp; done))) 4 _ Try.underlying24 (by exact size_nat) ?_
   | (go_at_call 53; refine (rof_any _ _).mono ?_; rintro e w2 ⟨rfl, hb2⟩; have b2 := (below_on (below_alloc _) (Nat.le_refl _) hb2).alloc (by have := hb2.size; simp at this; omega) (.cells (bitC A) 71); clear hb2)
   | refine wpList_alloc_row rfl 71 rfl _ zero_bits ?_
   | refine wpList_store_new rfl 71 _ _ rfl _ rfl rfl _ _ (by rw [bitC_size]; exact size_bits) (by simp only [bitC_size]) (bitC_one _) ?_)
  go_ret
  exact ⟨rfl, b2⟩
 ·have h1 : ¬ (k < 256) := by omega
  have h2 : decide (k < 256) = false := by simpa using h1
  have h3 : 0 ≤ k := by omega
  go_enter Try.func89, Try.ntmps89
  go_wp2_with (first
   | refine wpList_box_row rfl 24 _ rfl _ rfl ?_
   | refine wpList_loadR rfl 24 _ rfl _ rfl (by first | assumption | (refine Row.here ?_; first | (with_reducible rfl) | (simp; done)) | (refine Row.one ?_; first | (with_reducible rfl) | (simp; done)) | (refine Row.two ?_; first | (with_reducible rfl) | (simp; done))) 4 _ Try.underlying24 (by exact size_nat) ?_
   | (go_at_call 53; refine (rof_any _ _).mono ?_; rintro e w2 ⟨rfl, hb2⟩; have b2 := (below_on (below_alloc _) (Nat.le_refl _) hb2).alloc (by have := hb2.size; simp at this; omega) (.cells (bitC A) 71); clear hb2)
   | refine wpList_alloc_row rfl 71 rfl _ zero_bits ?_
   | refine wpList_store_new rfl 71 _ _ rfl _ rfl rfl _ _ (by rw [bitC_size]; exact size_bits) (by simp only [bitC_size]) (bitC_one _) ?_)
  go_ret
  exact ⟨rfl, b2⟩
theorem rbit_any (A : Nat) (k : Int) (w : World) :
  Calls Try.prog 89 #[.agg (natC A), .int .i64 k] w fun e w' => e = .returned (.int .i64 (bitI A k)) ∧ Below w.heap.size w w' := by
 unfold bitI
 by_cases h0 : 0 ≤ k ∧ k < 256
 ·obtain ⟨K, rfl⟩ := Int.eq_ofNat_of_zero_le h0.1
  refine (rbit_in A K w (by omega)).mono fun e w' ⟨he, hb⟩ => ⟨?_, hb⟩
  rw [he, Int.toNat_natCast]
  by_cases hb : A.testBit K = true
  ·rw [if_pos hb, if_pos ⟨h0.1, h0.2, hb⟩]
  ·rw [if_neg hb, if_neg (fun h => hb h.2.2)]
 ·rw [if_neg (fun h => h0 ⟨h.1, h.2.1⟩)]
  exact rbit_out A k w (by omega)
set_option maxRecDepth 100000 in
set_option maxHeartbeats 400000 in
theorem rlow_no (A : Nat) (w : World) (hA : A < 2 ^ 256) (h : 63 < bitLen A) :
  Calls Try.prog 20 #[.agg (natC A)] w fun e w' => e = .returned (.tuple #[.int .i64 0, .bool false]) ∧ Below w.heap.size w w' := by
 have HA : Hid (A < 2 ^ 256) := hA
 clear hA
 have h' : (63 : Int) < (bitLen A : Int) := by omega
 clear h
 go_enter Try.func20, Try.ntmps20
 go_wp2_with (first
  | refine wpList_box_row rfl 24 _ rfl _ rfl ?_
  | refine wpList_loadR rfl 24 _ rfl _ rfl (by first | assumption | (refine Row.here ?_; first | (with_reducible rfl) | (simp; done)) | (refine Row.one ?_; first | (with_reducible rfl) | (simp; done)) | (refine Row.two ?_; first | (with_reducible rfl) | (simp; done))) 4 _ Try.underlying24 (by exact size_nat) ?_
  | (go_at_call 60; refine (rlen_any _ _ HA.out).mono ?_; rintro e w2 ⟨rfl, hb2⟩; have b2 := below_on (below_alloc _) (Nat.le_refl _) hb2; clear hb2))
 go_ret2
 exact ⟨rfl, b2⟩
set_option maxRecDepth 100000 in
set_option maxHeartbeats 400000 in
theorem rlow_yes (A : Nat) (w : World) (hA : A < 9223372036854775808) (h : bitLen A ≤ 63) :
  Calls Try.prog 20 #[.agg (natC A)] w fun e w' => e = .returned (.tuple #[.int .i64 A, .bool true]) ∧ Below w.heap.size w w' := by
 have HA : Hid (A < 9223372036854775808) := hA
 clear hA
 have h' : ¬ (63 : Int) < (bitLen A : Int) := by omega
 clear h
 go_enter Try.func20, Try.ntmps20
 go_wp2_with (first
  | refine wpList_box_row rfl 24 _ rfl _ rfl ?_
  | refine wpList_loadR rfl 24 _ rfl _ rfl (by first | assumption | (refine Row.here ?_; first | (with_reducible rfl) | (simp; done)) | (refine Row.one ?_; first | (with_reducible rfl) | (simp; done)) | (refine Row.two ?_; first | (with_reducible rfl) | (simp; done))) 4 _ Try.underlying24 (by exact size_nat) ?_
  | (go_at_call 60; refine (rlen_any _ _ (Nat.lt_trans HA.out (by decide))).mono ?_; rintro e w2 ⟨rfl, hb2⟩; have r2 := (Row.here (w := w) (c := natC A) (t := 24) (b := w.heap.size) rfl).belowAll hb2; have b2 := below_on (below_alloc _) (Nat.le_refl _) hb2; clear hb2)
  | refine wpList_loadR rfl 24 _ rfl _ rfl r2 4 _ Try.underlying24 (by exact size_nat) ?_
  | (go_at_call 53; refine (rof_any _ _).mono ?_; rintro e w3 ⟨rfl, hb3⟩; have b3 := below_on b2 (Nat.le_refl _) hb3; clear hb3)
  | refine wpList_alloc_row rfl 71 rfl _ zero_bits ?_
  | refine wpList_store_new rfl 71 _ _ rfl _ rfl rfl _ _ (by rw [bitC_size]; exact size_bits) (by simp only [bitC_size]) (bitC_one _) ?_)
 have r3 := Row.new w3 (bitC A) 71
 have b4 := b3.alloc b3.size (.cells (bitC A) 71)
 generalize w3.alloc (.cells (bitC A) 71) = w4 at *
 generalize w3.heap.size = r at *
 clear b2 b3 r2 h'
 go_loopg [4, 6] 63 (fun g s4 s6 wr => ∃ k : Nat, k + g = 63 ∧ s4 = .int .i64 ((A % 2 ^ k : Nat) : Int) ∧ s6 = .int .i64 k ∧ Row wr r (bitC A) 71 ∧ Below w.heap.size w wr)
 case atStart => exact ⟨0, by omega, by rw [Nat.pow_zero, Nat.mod_one]; rfl, rfl, r3, b4⟩
 case round =>
  obtain ⟨k, hk, rfl, rfl, r0, hb⟩ := hrel
  clear r3 b4
  cases gk with
  | zero =>
   obtain rfl : k = 63 := by omega
   rw [Nat.mod_eq_of_lt (show A < 2 ^ 63 from HA.out)]
   clear hk
   have hx : ¬ ((63 : Int) < 63) := by omega
   go_wp2
   go_ret2
   exact ⟨rfl, hb⟩
  | succ g =>
   have hlt : (k : Int) < 63 := by omega
   have hlt' : (k : Int) < 256 := by omega
   have hc0 := cell_bits r0 k (by omega)
   have hm : A % 2 ^ k < 9223372036854775808 := Nat.lt_of_le_of_lt (Nat.mod_le _ _) HA.out
   have hno := mod_snoc_no A k
   have hor := mod_snoc_or A k
   have HM : Hid (A % 2 ^ k < 9223372036854775808) := hm
   cases hbit : A.testBit k
   ·rw [hbit] at hc0
    have R : Aside (A % 2 ^ (k + 1) = A % 2 ^ k ∧ Row wr r (bitC A) 71 ∧ Below w.heap.size w wr) := ⟨hno hbit, r0, hb⟩
    clear hno hor r0 hb hbit hm
    go_wp2
    obtain ⟨h1, r0, hb⟩ := R.out
    go_roundg g
    case measure => omega
    case rel => exact ⟨k + 1, by omega, by rw [h1], by go_num, r0, hb⟩
   ·rw [hbit] at hc0
    have R : Aside (A % 2 ^ k ||| 2 ^ k = A % 2 ^ (k + 1) ∧ Row wr r (bitC A) 71 ∧ Below w.heap.size w wr) := ⟨hor hbit, r0, hb⟩
    clear hno hor r0 hb hbit hm
    go_wp2
    obtain ⟨h1, r0, hb⟩ := R.out
    go_roundg g
    case measure => omega
    case rel => exact ⟨k + 1, by omega, by rw [← h1, ← or_bit_i _ _ HM.out (by omega), IntKind.wrap_i64, Int.natCast_emod]; simp [wrap64], by go_num, r0, hb⟩
end Go.Proofs.Yteddgjoailpgaaa
