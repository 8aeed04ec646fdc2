/- The document's Cmp and Sub. -/
import Derived.Test.YtmmjjohnejimdaaRAdd
import Derived.Test.YtmmjjohnejimdaaRNot
namespace Go.Proofs.Ytmmjjohnejimdaa
open Go.RowKit

/-- Which of two is greater. -/
def cmpI (A B : Nat) : Int := if A < B then -1 else if B < A then 1 else 0
/-- What two naturals that are the same from bit g + 1 on say at bit g. -/
theorem cmp_step (A B g : Nat) (h : A / 2 ^ (g + 1) = B / 2 ^ (g + 1)) :
    (A.testBit g = B.testBit g → A / 2 ^ g = B / 2 ^ g) ∧ (A.testBit g = true → B.testBit g = false → B < A) ∧ (A.testBit g = false → B.testBit g = true → A < B) := by
  have hP := Nat.two_pow_pos g
  rw [Nat.pow_succ, ← Nat.div_div_eq_div_mul, ← Nat.div_div_eq_div_mul] at h
  have ha := Nat.div_add_mod A (2 ^ g)
  have hb := Nat.div_add_mod B (2 ^ g)
  have ma := Nat.mod_lt A hP
  have mb := Nat.mod_lt B hP
  have key : ∀ x y P a b : Nat, 0 < P → a < P → b < P → x < y → P * x + a < P * y + b := by
    intro x y P a b h0 h1 _ h3
    have : P * (x + 1) ≤ P * y := Nat.mul_le_mul_left P h3
    rw [Nat.mul_add] at this
    omega
  rcases bit_cases A g with ⟨h1, h2, _⟩ | ⟨h1, h2, _⟩ <;> rcases bit_cases B g with ⟨h3, h4, _⟩ | ⟨h3, h4, _⟩ <;> rw [h1, h3] <;> simp
  · omega
  · have := key (A / 2 ^ g) (B / 2 ^ g) _ _ _ hP ma mb (by omega)
    omega
  · have := key (B / 2 ^ g) (A / 2 ^ g) _ _ _ hP mb ma (by omega)
    omega
  · omega

set_option maxRecDepth 100000 in
set_option maxHeartbeats 1000000 in
theorem rcmp_any (A B : Nat) (w : World) (hA : A < 2 ^ 256) (hB : B < 2 ^ 256) :
    Calls Try.prog 17 #[.agg (natC A), .agg (natC B)] w fun e w' => e = .returned (.int .i64 (cmpI A B)) ∧ Below w.heap.size w w' := by
  have HAB : Hid (A / 2 ^ 256 = B / 2 ^ 256) := by show _ = _; rw [Nat.div_eq_of_lt hA, Nat.div_eq_of_lt hB]
  clear hA hB
  go_enter Try.func17, Try.ntmps17
  go_wp2_with (first
    | refine wpList_box_row rfl 24 _ rfl _ rfl ?_)
  have hW : ((w.alloc (Obj.cells (natC A) 24)).alloc (Obj.cells (natC B) 24)).heap.size = w.heap.size + 2 := by simp
  have rA : Row ((w.alloc (Obj.cells (natC A) 24)).alloc (Obj.cells (natC B) 24)) w.heap.size (natC A) 24 := Row.one rfl
  have rB : Row ((w.alloc (Obj.cells (natC A) 24)).alloc (Obj.cells (natC B) 24)) (w.heap.size + 1) (natC B) 24 := Row.here (by simp)
  have bW : Below w.heap.size w ((w.alloc (Obj.cells (natC A) 24)).alloc (Obj.cells (natC B) 24)) := below_alloc2 _ _
  generalize ((w.alloc (Obj.cells (natC A) 24)).alloc (Obj.cells (natC B) 24)) = W at *
  refine wp_region_inv0 (by kernel_rfl) (fun d a' w' =>
    (d 6 = false ∧ d 7 = false ∧ (d 3 = true → d 2 = true) ∧ ∃ vp vq va vx vb vy : Value, a' = ({ tmps := List.toArray ((.agg (natC A)) :: (.agg (natC B)) :: (.pointer (some ⟨w.heap.size, 0, none⟩)) :: (.pointer (some ⟨w.heap.size + 1, 0, none⟩)) :: (.int .i64 0) :: vp :: vq :: undef :: va :: vx :: vb :: vy :: undef :: undef :: undef :: undef :: undef :: undef :: undef :: undef :: undef :: undef :: undef :: undef :: undef :: undef :: []), defers := [] } : Act) ∧
      (d 0 = true → va = .agg (natC A)) ∧ (d 1 = true → vx = .agg (bitC A)) ∧ (d 2 = true → vb = .agg (natC B)) ∧ (d 3 = true → vy = .agg (bitC B)) ∧
      (d 4 = true → ∃ p, vp = .pointer (some ⟨p, 0, none⟩) ∧ w.heap.size + 2 ≤ p ∧ Row w' p (bitC 0) 58) ∧ (d 5 = true → ∃ q, vq = .pointer (some ⟨q, 0, none⟩) ∧ w.heap.size + 2 ≤ q ∧ Row w' q (bitC 0) 58) ∧
      (d 4 = true → d 5 = true → vp ≠ vq) ∧ Below (w.heap.size + 2) W w') ∨
    ((∀ j, j < 7 → d j = true) ∧ ∃ p q va vx vb vy, ∃ vp vq : Value, vp = .pointer (some ⟨p, 0, none⟩) ∧ vq = .pointer (some ⟨q, 0, none⟩) ∧ va = .agg (natC A) ∧ vx = .agg (bitC A) ∧ vb = .agg (natC B) ∧ vy = .agg (bitC B) ∧ a' = ({ tmps := List.toArray ((.agg (natC A)) :: (.agg (natC B)) :: (.pointer (some ⟨w.heap.size, 0, none⟩)) :: (.pointer (some ⟨w.heap.size + 1, 0, none⟩)) :: (.int .i64 0) :: vp :: vq :: undef :: va :: vx :: vb :: vy :: undef :: undef :: undef :: undef :: undef :: undef :: undef :: undef :: undef :: undef :: undef :: undef :: undef :: undef :: []), defers := [] } : Act) ∧
      w.heap.size + 2 ≤ p ∧ w.heap.size + 2 ≤ q ∧ p ≠ q ∧ Row w' p (bitC A) 58 ∧ Row w' q (if d 7 = true then bitC B else bitC 0) 58 ∧ Below (w.heap.size + 2) W w')) (by kernel_rfl) ?start ?step ?fin
  case start => exact .inl ⟨rfl, rfl, nofun, undef, undef, undef, undef, undef, undef, rfl, nofun, nofun, nofun, nofun, nofun, nofun, nofun, (Below.refl _ _).drew⟩
  case step =>
    intro i o ho d a' w' hI hd hpre
    rcases hI with ⟨d6, d7, d32, vp, vq, va, vx, vb, vy, rfl, h0, h1, h2, h3, h4, h5, h6, hb⟩ | ⟨hall, p, q, va, vx, vb, vy, vp, vq, rfl, rfl, rfl, rfl, rfl, rfl, rfl, hp, hq, hne, rp, rq, hb⟩
    · have hsz : w.heap.size + 2 ≤ w'.heap.size := by have := hb.size; omega
      match i, ho with
      | 0, ho =>
        have ho' := Option.some.inj ho
        subst ho'
        refine opw_load 24 _ rfl w.heap.size rfl (rA.below hb (by omega)) 4 _ Try.underlying24 size_nat ?_
        exact .inl ⟨d6, d7, d32, vp, vq, _, vx, vb, vy, rfl, fun _ => rfl, h1, h2, h3, h4, h5, h6, hb⟩
      | 1, ho =>
        have ho' := Option.some.inj ho
        subst ho'
        have e0 := h0 (hpre ⟨0, .data⟩ (by simp) rfl)
        subst e0
        refine opw_call 44 _ _ rfl Try.func44 (by kernel_rfl) #[.agg (natC A)] rfl ?_
        refine (rof_any A w').mono fun e w2 ⟨he, hb2⟩ => ⟨_, he, .inl ⟨d6, d7, d32, vp, vq, _, _, vb, vy, rfl, fun _ => rfl, fun _ => rfl, h2, h3, fun h => ?_, fun h => ?_, h6, hb.trans (hb2.mono hsz)⟩⟩
        · obtain ⟨p, e, hp, r⟩ := h4 h; exact ⟨p, e, hp, r.belowAll hb2⟩
        · obtain ⟨p, e, hp, r⟩ := h5 h; exact ⟨p, e, hp, r.belowAll hb2⟩
      | 2, ho =>
        have ho' := Option.some.inj ho
        subst ho'
        refine opw_load 24 _ rfl (w.heap.size + 1) rfl (rB.below hb (by omega)) 4 _ Try.underlying24 size_nat ?_
        exact .inl ⟨d6, d7, fun _ => rfl, vp, vq, va, vx, _, vy, rfl, h0, h1, fun _ => rfl, h3, h4, h5, h6, hb⟩
      | 3, ho =>
        have ho' := Option.some.inj ho
        subst ho'
        have D2 := hpre ⟨2, .data⟩ (by simp) rfl
        have e0 := h2 D2
        subst e0
        refine opw_call 44 _ _ rfl Try.func44 (by kernel_rfl) #[.agg (natC B)] rfl ?_
        refine (rof_any B w').mono fun e w2 ⟨he, hb2⟩ => ⟨_, he, .inl ⟨d6, d7, fun _ => D2, vp, vq, va, vx, _, _, rfl, h0, h1, fun _ => rfl, fun _ => rfl, fun h => ?_, fun h => ?_, h6, hb.trans (hb2.mono hsz)⟩⟩
        · obtain ⟨p, e, hp, r⟩ := h4 h; exact ⟨p, e, hp, r.belowAll hb2⟩
        · obtain ⟨p, e, hp, r⟩ := h5 h; exact ⟨p, e, hp, r.belowAll hb2⟩
      | 4, ho =>
        have ho' := Option.some.inj ho
        subst ho'
        refine opw_alloc 58 rfl _ zero_bits ?_
        refine .inl ⟨d6, d7, d32, _, vq, va, vx, vb, vy, rfl, h0, h1, h2, h3, fun _ => ⟨w'.heap.size, rfl, hsz, Row.new _ _ _⟩, fun h => ?_, fun _ h => ?_, hb.alloc hsz _⟩
        · obtain ⟨p, e, hp, r⟩ := h5 h; exact ⟨p, e, hp, r.alloc _⟩
        · obtain ⟨p, e, hp, r⟩ := h5 h
          subst e
          intro e
          have hlt := r.lt
          simp at e
          first | done | omega
      | 5, ho =>
        have ho' := Option.some.inj ho
        subst ho'
        refine opw_alloc 58 rfl _ zero_bits ?_
        refine .inl ⟨d6, d7, d32, vp, _, va, vx, vb, vy, rfl, h0, h1, h2, h3, fun h => ?_, fun _ => ⟨w'.heap.size, rfl, hsz, Row.new _ _ _⟩, fun h _ => ?_, hb.alloc hsz _⟩
        · obtain ⟨p, e, hp, r⟩ := h4 h; exact ⟨p, e, hp, r.alloc _⟩
        · obtain ⟨p, e, hp, r⟩ := h4 h
          subst e
          intro e
          have hlt := r.lt
          simp at e
          first | done | omega
      | 6, ho =>
        have ho' := Option.some.inj ho
        subst ho'
        have D0 := hpre ⟨0, .phase⟩ (by simp) rfl
        have D1 := hpre ⟨1, .data⟩ (by simp) rfl
        have D3 := hpre ⟨3, .chain⟩ (by simp) rfl
        have D4 := hpre ⟨4, .data⟩ (by simp) rfl
        have D5 := hpre ⟨5, .phase⟩ (by simp) rfl
        have D2 := d32 D3
        obtain ⟨p, ep, hp, rp⟩ := h4 D4
        obtain ⟨q, eq, hq, rq⟩ := h5 D5
        have hne := h6 D4 D5
        have e0 := h0 D0; have e1 := h1 D1; have e2 := h2 D2; have e3 := h3 D3
        subst ep eq e0 e1 e2 e3
        have hpq : p ≠ q := fun e => hne (by rw [e])
        refine opw_store 58 _ _ rfl p (bitC A) rfl rfl rp (by rw [bitC_size]; exact size_bits) (by simp only [bitC_size]) (bitC_one _) ?_
        refine .inr ⟨fun j hj => ?_, p, q, _, _, _, _, _, _, rfl, rfl, rfl, rfl, rfl, rfl, rfl, hp, hq, hpq, rp.setRow _, ?_, below_setRow hb hp _⟩
        · match j, hj with
          | 0, _ => exact D0
          | 1, _ => exact D1
          | 2, _ => exact D2
          | 3, _ => exact D3
          | 4, _ => exact D4
          | 5, _ => exact D5
          | 6, _ => rfl
        · have hr := rq.setRow_far p (bitC A) (Ne.symm hpq)
          rw [if_neg (by show ¬ d 7 = true; rw [d7]; decide)]
          exact hr
      | 7, ho =>
        have ho' := Option.some.inj ho
        subst ho'
        have D6 := hpre ⟨6, .chain⟩ (by simp) rfl
        rw [d6] at D6
        cases D6
      | n + 8, ho => cases ho
    · match i, ho with
      | 0, _ => rw [hall 0 (by omega)] at hd; cases hd
      | 1, _ => rw [hall 1 (by omega)] at hd; cases hd
      | 2, _ => rw [hall 2 (by omega)] at hd; cases hd
      | 3, _ => rw [hall 3 (by omega)] at hd; cases hd
      | 4, _ => rw [hall 4 (by omega)] at hd; cases hd
      | 5, _ => rw [hall 5 (by omega)] at hd; cases hd
      | 6, _ => rw [hall 6 (by omega)] at hd; cases hd
      | 7, ho =>
        have ho' := Option.some.inj ho
        subst ho'
        rw [if_neg (by rw [hd]; decide)] at rq
        refine opw_store 58 _ _ rfl q (bitC B) rfl rfl rq (by rw [bitC_size]; exact size_bits) (by simp only [bitC_size]) (bitC_one _) ?_
        exact .inr ⟨fun j hj => by show (j == 7 || d j) = true; rw [hall j hj, Bool.or_true], p, q, _, _, _, _, _, _, rfl, rfl, rfl, rfl, rfl, rfl, rfl, hp, hq, hne, rp.setRow_far _ _ hne, (by rw [if_pos (by rfl)]; exact rq.setRow _), below_setRow hb hq _⟩
      | n + 8, ho => cases ho
  case fin =>
    intro d a' w' hI hall
    rcases hI with ⟨d6, _⟩ | ⟨_, p, q, va, vx, vb, vy, vp, vq, rfl, rfl, rfl, rfl, rfl, rfl, rfl, hp, hq, hne, rp, rq, hb⟩
    · rw [hall 6 (by decide)] at d6; cases d6
    rw [hall 7 (by decide), if_pos rfl] at rq
    have hsz := hb.size
    have bw := bW.trans (hb.mono (by omega))
    clear hb rA rB bW hall
    go_wp2
    go_loopg [7] 256 (fun g s7 wr => s7 = .int .i64 ((g : Int) - 1) ∧ A / 2 ^ g = B / 2 ^ g ∧ g ≤ 256 ∧ Row wr p (bitC A) 58 ∧ Row wr q (bitC B) 58 ∧ Below w.heap.size w wr)
    case atStart => exact ⟨rfl, HAB.out, Nat.le_refl _, rp, rq, bw⟩
    case round =>
      obtain ⟨rfl, hdiv, hle, r1, r2, hb⟩ := hrel
      clear rp rq bw HAB
      cases gk with
      | zero =>
        rw [Nat.pow_zero, Nat.div_one, Nat.div_one] at hdiv
        subst hdiv
        clear hle
        have hx : ¬ ((0 : Int) ≤ -1) := by omega
        go_wp2
        go_ret
        exact ⟨by simp [cmpI], hb⟩
      | succ g =>
        have hstep := cmp_step A B g hdiv
        have hc1 := cell_bits r1 g (by omega)
        have hc2 := cell_bits r2 g (by omega)
        rw [show ((g + 1 : Nat) : Int) - 1 = (g : Int) by omega]
        have hgl : (g : Int) < 256 := by omega
        generalize A.testBit g = x at *
        generalize B.testBit g = y at *
        have R : Aside (((x = y → A / 2 ^ g = B / 2 ^ g) ∧ (x = true → y = false → B < A) ∧ (x = false → y = true → A < B)) ∧ Row wr p (bitC A) 58 ∧ Row wr q (bitC B) 58 ∧ Below w.heap.size w wr) := ⟨hstep, r1, r2, hb⟩
        clear hstep r1 r2 hb hdiv
        cases x <;> cases y
        · go_wp2
          go_region
          go_wp2
          obtain ⟨h1, r1, r2, hb⟩ := R.out
          go_roundg g
          case measure => omega
          case rel => exact ⟨rfl, h1.1 (by simp), by omega, r1, r2, hb.drew⟩
        · go_wp2
          go_region
          go_wp2
          obtain ⟨h1, r1, r2, hb⟩ := R.out
          go_ret
          exact ⟨by rw [cmpI, if_pos (h1.2.2 (by simp) (by simp))]; rfl, hb.drew⟩
        · go_wp2
          go_region
          go_wp2
          obtain ⟨h1, r1, r2, hb⟩ := R.out
          go_ret
          have hlt := h1.2.1 (by simp) (by simp)
          exact ⟨by rw [cmpI, if_neg (by omega), if_pos hlt]; rfl, hb.drew⟩
        · go_wp2
          go_region
          go_wp2
          obtain ⟨h1, r1, r2, hb⟩ := R.out
          go_roundg g
          case measure => omega
          case rel => exact ⟨rfl, h1.1 (by simp), by omega, r1, r2, hb.drew⟩
end Go.Proofs.Ytmmjjohnejimdaa
