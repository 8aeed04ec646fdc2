/- The document's Add: the sum, bit by bit. -/
import Derived.Test.YtmmjjohnejimdaaRLen
import Derived.Test.YtmmjjohnejimdaaQuiet
import Derived.Test.YtmmjjohnejimdaaNAdd
import Derived.Deep.DeepCutAuto
namespace Go.Proofs.Ytmmjjohnejimdaa
open Go.RowKit

set_option maxRecDepth 100000 in
set_option maxHeartbeats 1000000 in
theorem radd_any (A B : Nat) (w : World) :
    Calls Try.prog 16 #[.agg (natC A), .agg (natC B)] w fun e w' => e = .returned (.tuple #[.agg (natC (A + B)), .int .i64 (cN A B 256 : Nat)]) ∧ Below w.heap.size w w' := by
  go_enter Try.func16, Try.ntmps16
  go_wp2_with (first
    | refine wpList_box_row rfl 24 _ rfl _ rfl ?_
    | refine wpList_alloc_row rfl 24 rfl _ zero_nat ?_)
  have hW : (((w.alloc (Obj.cells (natC A) 24)).alloc (Obj.cells (natC B) 24)).alloc (Obj.cells (natC 0) 24)).heap.size = w.heap.size + 3 := by simp
  have rA : Row (((w.alloc (Obj.cells (natC A) 24)).alloc (Obj.cells (natC B) 24)).alloc (Obj.cells (natC 0) 24)) w.heap.size (natC A) 24 := ((Row.here rfl).alloc _).alloc _
  have rB : Row (((w.alloc (Obj.cells (natC A) 24)).alloc (Obj.cells (natC B) 24)).alloc (Obj.cells (natC 0) 24)) (w.heap.size + 1) (natC B) 24 := (Row.here (by simp)).alloc _
  have rR : Row (((w.alloc (Obj.cells (natC A) 24)).alloc (Obj.cells (natC B) 24)).alloc (Obj.cells (natC 0) 24)) (w.heap.size + 1 + 1) (natC 0) 24 := Row.here (by simp)
  have bW : Below w.heap.size w (((w.alloc (Obj.cells (natC A) 24)).alloc (Obj.cells (natC B) 24)).alloc (Obj.cells (natC 0) 24)) := (((Below.refl _ _).alloc (Nat.le_refl _) _).alloc (by simp) _).alloc (by simp; omega) _
  generalize (((w.alloc (Obj.cells (natC A) 24)).alloc (Obj.cells (natC B) 24)).alloc (Obj.cells (natC 0) 24)) = W at *
  refine wp_region_inv0 (by kernel_rfl) (fun d a' w' =>
    (d 6 = false ∧ d 7 = false ∧ (d 3 = true → d 2 = true) ∧ ∃ vp vq va vx vb vy : Value, a' = ({ tmps := List.toArray ((.agg (natC A)) :: (.agg (natC B)) :: (.pointer (some ⟨w.heap.size, 0, none⟩)) :: (.pointer (some ⟨w.heap.size + 1, 0, none⟩)) :: (.pointer (some ⟨w.heap.size + 1 + 1, 0, none⟩)) :: (.int .i64 0) :: vp :: vq :: undef :: undef :: undef :: va :: vx :: vb :: vy :: undef :: undef :: undef :: undef :: undef :: undef :: undef :: undef :: undef :: undef :: undef :: undef :: undef :: undef :: undef :: undef :: undef :: undef :: undef :: undef :: undef :: undef :: undef :: undef :: undef :: undef :: undef :: undef :: undef :: undef :: undef :: undef :: undef :: undef :: undef :: undef :: undef :: undef :: undef :: undef :: undef :: undef :: []), defers := [] } : Act) ∧
      (d 0 = true → va = .agg (natC A)) ∧ (d 1 = true → vx = .agg (bitC A)) ∧ (d 2 = true → vb = .agg (natC B)) ∧ (d 3 = true → vy = .agg (bitC B)) ∧
      (d 4 = true → ∃ p, vp = .pointer (some ⟨p, 0, none⟩) ∧ w.heap.size + 3 ≤ p ∧ Row w' p (bitC 0) 58) ∧ (d 5 = true → ∃ q, vq = .pointer (some ⟨q, 0, none⟩) ∧ w.heap.size + 3 ≤ q ∧ Row w' q (bitC 0) 58) ∧
      (d 4 = true → d 5 = true → vp ≠ vq) ∧ Below (w.heap.size + 3) W w') ∨
    ((∀ j, j < 7 → d j = true) ∧ ∃ p q va vx vb vy, ∃ vp vq : Value, vp = .pointer (some ⟨p, 0, none⟩) ∧ vq = .pointer (some ⟨q, 0, none⟩) ∧ va = .agg (natC A) ∧ vx = .agg (bitC A) ∧ vb = .agg (natC B) ∧ vy = .agg (bitC B) ∧ a' = ({ tmps := List.toArray ((.agg (natC A)) :: (.agg (natC B)) :: (.pointer (some ⟨w.heap.size, 0, none⟩)) :: (.pointer (some ⟨w.heap.size + 1, 0, none⟩)) :: (.pointer (some ⟨w.heap.size + 1 + 1, 0, none⟩)) :: (.int .i64 0) :: vp :: vq :: undef :: undef :: undef :: va :: vx :: vb :: vy :: undef :: undef :: undef :: undef :: undef :: undef :: undef :: undef :: undef :: undef :: undef :: undef :: undef :: undef :: undef :: undef :: undef :: undef :: undef :: undef :: undef :: undef :: undef :: undef :: undef :: undef :: undef :: undef :: undef :: undef :: undef :: undef :: undef :: undef :: undef :: undef :: undef :: undef :: undef :: undef :: undef :: undef :: []), defers := [] } : Act) ∧
      w.heap.size + 3 ≤ p ∧ w.heap.size + 3 ≤ q ∧ p ≠ q ∧ Row w' p (bitC A) 58 ∧ Row w' q (if d 7 = true then bitC B else bitC 0) 58 ∧ Below (w.heap.size + 3) W w')) (by kernel_rfl) ?start ?step ?fin
  case start => exact .inl ⟨rfl, rfl, nofun, undef, undef, undef, undef, undef, undef, rfl, nofun, nofun, nofun, nofun, nofun, nofun, nofun, (Below.refl _ _).drew⟩
  case step =>
    intro i o ho d a' w' hI hd hpre
    rcases hI with ⟨d6, d7, d32, vp, vq, va, vx, vb, vy, rfl, h0, h1, h2, h3, h4, h5, h6, hb⟩ | ⟨hall, p, q, va, vx, vb, vy, vp, vq, rfl, rfl, rfl, rfl, rfl, rfl, rfl, hp, hq, hne, rp, rq, hb⟩
    · have hsz : w.heap.size + 3 ≤ w'.heap.size := by have := hb.size; omega
      match i, ho with
      | 0, ho =>
        have ho' := Option.some.inj ho
        subst ho'
        refine opw_load 24 _ rfl w.heap.size rfl (rA.below hb (by omega)) 4 _ Try.underlying24 size_nat ?_
        exact .inl ⟨d6, d7, d32, vp, vq, _, vx, vb, vy, rfl, fun _ => rfl, h1, h2, h3, h4, h5, h6, hb⟩
      | 1, ho =>
        have ho' := Option.some.inj ho
        subst ho'
        have e0 := h0 (hpre ⟨0, .data⟩ (by simp) rfl)
        subst e0
        refine opw_call 44 _ _ rfl Try.func44 (by kernel_rfl) #[.agg (natC A)] rfl ?_
        refine (rof_any A w').mono fun e w2 ⟨he, hb2⟩ => ⟨_, he, .inl ⟨d6, d7, d32, vp, vq, _, _, vb, vy, rfl, fun _ => rfl, fun _ => rfl, h2, h3, fun h => ?_, fun h => ?_, h6, hb.trans (hb2.mono hsz)⟩⟩
        · obtain ⟨p, e, hp, r⟩ := h4 h; exact ⟨p, e, hp, r.belowAll hb2⟩
        · obtain ⟨p, e, hp, r⟩ := h5 h; exact ⟨p, e, hp, r.belowAll hb2⟩
      | 2, ho =>
        have ho' := Option.some.inj ho
        subst ho'
        refine opw_load 24 _ rfl (w.heap.size + 1) rfl (rB.below hb (by omega)) 4 _ Try.underlying24 size_nat ?_
        exact .inl ⟨d6, d7, fun _ => rfl, vp, vq, va, vx, _, vy, rfl, h0, h1, fun _ => rfl, h3, h4, h5, h6, hb⟩
      | 3, ho =>
        have ho' := Option.some.inj ho
        subst ho'
        have D2 := hpre ⟨2, .data⟩ (by simp) rfl
        have e0 := h2 D2
        subst e0
        refine opw_call 44 _ _ rfl Try.func44 (by kernel_rfl) #[.agg (natC B)] rfl ?_
        refine (rof_any B w').mono fun e w2 ⟨he, hb2⟩ => ⟨_, he, .inl ⟨d6, d7, fun _ => D2, vp, vq, va, vx, _, _, rfl, h0, h1, fun _ => rfl, fun _ => rfl, fun h => ?_, fun h => ?_, h6, hb.trans (hb2.mono hsz)⟩⟩
        · obtain ⟨p, e, hp, r⟩ := h4 h; exact ⟨p, e, hp, r.belowAll hb2⟩
        · obtain ⟨p, e, hp, r⟩ := h5 h; exact ⟨p, e, hp, r.belowAll hb2⟩
      | 4, ho =>
        have ho' := Option.some.inj ho
        subst ho'
        refine opw_alloc 58 rfl _ zero_bits ?_
        refine .inl ⟨d6, d7, d32, _, vq, va, vx, vb, vy, rfl, h0, h1, h2, h3, fun _ => ⟨w'.heap.size, rfl, hsz, Row.new _ _ _⟩, fun h => ?_, fun _ h => ?_, hb.alloc hsz _⟩
        · obtain ⟨p, e, hp, r⟩ := h5 h; exact ⟨p, e, hp, r.alloc _⟩
        · obtain ⟨p, e, hp, r⟩ := h5 h
          subst e
          intro e
          have hlt := r.lt
          simp at e
          first | done | omega
      | 5, ho =>
        have ho' := Option.some.inj ho
        subst ho'
        refine opw_alloc 58 rfl _ zero_bits ?_
        refine .inl ⟨d6, d7, d32, vp, _, va, vx, vb, vy, rfl, h0, h1, h2, h3, fun h => ?_, fun _ => ⟨w'.heap.size, rfl, hsz, Row.new _ _ _⟩, fun h _ => ?_, hb.alloc hsz _⟩
        · obtain ⟨p, e, hp, r⟩ := h4 h; exact ⟨p, e, hp, r.alloc _⟩
        · obtain ⟨p, e, hp, r⟩ := h4 h
          subst e
          intro e
          have hlt := r.lt
          simp at e
          first | done | omega
      | 6, ho =>
        have ho' := Option.some.inj ho
        subst ho'
        have D0 := hpre ⟨0, .phase⟩ (by simp) rfl
        have D1 := hpre ⟨1, .data⟩ (by simp) rfl
        have D3 := hpre ⟨3, .chain⟩ (by simp) rfl
        have D4 := hpre ⟨4, .data⟩ (by simp) rfl
        have D5 := hpre ⟨5, .phase⟩ (by simp) rfl
        have D2 := d32 D3
        obtain ⟨p, ep, hp, rp⟩ := h4 D4
        obtain ⟨q, eq, hq, rq⟩ := h5 D5
        have hne := h6 D4 D5
        have e0 := h0 D0; have e1 := h1 D1; have e2 := h2 D2; have e3 := h3 D3
        subst ep eq e0 e1 e2 e3
        have hpq : p ≠ q := fun e => hne (by rw [e])
        refine opw_store 58 _ _ rfl p (bitC A) rfl rfl rp (by rw [bitC_size]; exact size_bits) (by simp only [bitC_size]) (bitC_one _) ?_
        refine .inr ⟨fun j hj => ?_, p, q, _, _, _, _, _, _, rfl, rfl, rfl, rfl, rfl, rfl, rfl, hp, hq, hpq, rp.setRow _, ?_, below_setRow hb hp _⟩
        · match j, hj with
          | 0, _ => exact D0
          | 1, _ => exact D1
          | 2, _ => exact D2
          | 3, _ => exact D3
          | 4, _ => exact D4
          | 5, _ => exact D5
          | 6, _ => rfl
        · have hr := rq.setRow_far p (bitC A) (Ne.symm hpq)
          rw [if_neg (by show ¬ d 7 = true; rw [d7]; decide)]
          exact hr
      | 7, ho =>
        have ho' := Option.some.inj ho
        subst ho'
        have D6 := hpre ⟨6, .chain⟩ (by simp) rfl
        rw [d6] at D6
        cases D6
      | n + 8, ho => cases ho
    · match i, ho with
      | 0, _ => rw [hall 0 (by omega)] at hd; cases hd
      | 1, _ => rw [hall 1 (by omega)] at hd; cases hd
      | 2, _ => rw [hall 2 (by omega)] at hd; cases hd
      | 3, _ => rw [hall 3 (by omega)] at hd; cases hd
      | 4, _ => rw [hall 4 (by omega)] at hd; cases hd
      | 5, _ => rw [hall 5 (by omega)] at hd; cases hd
      | 6, _ => rw [hall 6 (by omega)] at hd; cases hd
      | 7, ho =>
        have ho' := Option.some.inj ho
        subst ho'
        rw [if_neg (by rw [hd]; decide)] at rq
        refine opw_store 58 _ _ rfl q (bitC B) rfl rfl rq (by rw [bitC_size]; exact size_bits) (by simp only [bitC_size]) (bitC_one _) ?_
        exact .inr ⟨fun j hj => by show (j == 7 || d j) = true; rw [hall j hj, Bool.or_true], p, q, _, _, _, _, _, _, rfl, rfl, rfl, rfl, rfl, rfl, rfl, hp, hq, hne, rp.setRow_far _ _ hne, (by rw [if_pos (by rfl)]; exact rq.setRow _), below_setRow hb hq _⟩
      | n + 8, ho => cases ho
  case fin =>
    intro d a' w' hI hall
    rcases hI with ⟨d6, _⟩ | ⟨_, p, q, va, vx, vb, vy, vp, vq, rfl, rfl, rfl, rfl, rfl, rfl, rfl, hp, hq, hne, rp, rq, hb⟩
    · rw [hall 6 (by decide)] at d6; cases d6
    rw [hall 7 (by decide), if_pos rfl] at rq
    have hsz := hb.size
    have bw := bW.trans (hb.mono (by omega))
    have rR' := rR.below hb (by omega)
    go_wp2_with (first
      | refine wpList_build_zero rfl 58 rfl _ built_bits ?_
      | refine wpList_alloc_row rfl 58 rfl _ zero_bits ?_
      | refine wpList_store_new rfl 58 _ _ rfl _ rfl rfl _ _ (by rw [bitC_size]; exact size_bits) (by simp only [bitC_size]) (bitC_one _) ?_)
    have rr := Row.new w' (bitC 0) 58
    have rp' := rp.alloc (.cells (bitC 0) 58)
    have rq' := rq.alloc (.cells (bitC 0) 58)
    have rR2 := rR'.alloc (.cells (bitC 0) 58)
    have bw2 := bw.alloc (by omega) (.cells (bitC 0) 58)
    have hpr := rp.lt
    have hqr := rq.lt
    generalize w'.alloc (.cells (bitC 0) 58) = w1 at *
    generalize w'.heap.size = r at *
    clear rp rq rR' bw hb rA rB rR bW
    go_loopg [9, 10] 256 (fun g s9 s10 wr => ∃ k : Nat, k + g = 256 ∧ s9 = .bool (carry A B k) ∧ s10 = .int .i64 k ∧ Row wr p (bitC A) 58 ∧ Row wr q (bitC B) 58 ∧ Row wr r (bitC ((A + B) % 2 ^ k)) 58 ∧ Row wr (w.heap.size + 1 + 1) (natC 0) 24 ∧ Below w.heap.size w wr)
    case atStart => exact ⟨0, by omega, by rw [carry_zero], rfl, rp', rq', by rw [Nat.pow_zero, Nat.mod_one]; exact rr, rR2, bw2⟩
    case round =>
      obtain ⟨k, hk, rfl, rfl, r1, r2, r3, r4, hb⟩ := hrel
      clear rr rp' rq' rR2 bw2
      cases gk with
      | zero =>
        obtain rfl : k = 256 := by omega
        rw [bitC_full] at r3
        clear hk
        have hx : ¬ ((256 : Int) < 256) := by omega
        have hcn : cN A B 256 = if carry A B 256 = true then 1 else 0 := rfl
        have HC : Hid (cN A B 256 = if carry A B 256 = true then 1 else 0) := hcn
        clear hcn
        cases hc : carry A B 256
        all_goals
          rw [hc] at HC
          clear hc
          go_wp2_with (first
            | refine wpList_load_row rfl 58 _ rfl _ rfl 58 _ (0, 0) _ r3 Try.underlying58 rfl (by rw [bitC_size]; exact size_bits) ?_
            | (go_at_call 45; refine (rnat_any _ _).mono ?_; rintro e w2 ⟨rfl, hb2⟩; have r5 := r4.belowAll hb2; have b5 := hb.trans (hb2.mono (by have := hb.size; omega)))
            | refine wpList_store_row rfl 24 _ _ rfl _ (natC (A + B)) rfl rfl 24 (natC 0) r5 (by exact size_nat) (by rfl) (natC_one _) ?_)
          all_goals exact ret_row2 rfl _ rfl (r5.setRow _) 4 _ Try.underlying24 (by exact size_nat) rfl _ rfl ⟨by rw [HC.out]; rfl, below_setRow b5 (by omega) _⟩
      | succ g =>
        have hlt : (k : Int) < 256 := by omega
        have hc1 := cell_bits r1 k (by omega)
        have hc2 := cell_bits r2 k (by omega)
        have hc3 := cell_bits r3 k (by omega)
        have hf3 := r3.frozen k
        have hbit := add_bit A B k
        have hcs := carry_succ A B k
        generalize A.testBit k = x at *
        generalize B.testBit k = y at *
        generalize carry A B k = c at *
        have R : Aside ((A + B).testBit k = ((x != y) != c) ∧ carry A B (k + 1) = (x && y || c && (x || y)) ∧ Row wr p (bitC A) 58 ∧ Row wr q (bitC B) 58 ∧ Row wr r (bitC ((A + B) % 2 ^ k)) 58 ∧ Row wr (w.heap.size + 1 + 1) (natC 0) 24 ∧ Below w.heap.size w wr) := ⟨hbit, hcs, r1, r2, r3, r4, hb⟩
        clear hbit hcs r1 r2 r3 r4 hb
        cases x <;> cases y <;> cases c
        all_goals
          go_wp2
          go_region
          go_wp2
          obtain ⟨hbit, hcs, r1, r2, r3, r4, hb⟩ := R.out
          go_roundg g
          case measure => omega
          case rel => exact ⟨k + 1, by omega, by rw [hcs]; rfl, by go_num, (r1.setCell_far _ _ _ (by omega)).drew, (r2.setCell_far _ _ _ (by omega)).drew, by rw [← bitC_snoc (A + B) k _ hbit.symm]; exact (r3.setCell _ _).drew, (r4.setCell_far _ _ _ (by omega)).drew, (below_setCell hb (by omega) _ _).drew⟩
end Go.Proofs.Ytmmjjohnejimdaa
