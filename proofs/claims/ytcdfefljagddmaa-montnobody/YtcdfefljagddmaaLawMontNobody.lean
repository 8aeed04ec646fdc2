/- MontNobody: for every two naturals: rings that nobody made answer nothing, and more than 64 powers are refused; no condition. -/
import Derived.Test.YtcdfefljagddmaaMRef
import Derived.Test.YtcdfefljagddmaaMNobody
import Derived.Test.YtcdfefljagddmaaGU
namespace Go.Proofs.Ytcdfefljagddmaa
open Go.ChangeShapes Go.WideShapes Go.ChangeAt Go.RowKit
namespace montNobodyP
theorem sl_ring : Try.prog.underlying 54 = some (.slice (Try.prog.elem 54)) := by kernel_rfl
theorem built_ring : Try.prog.built 53 [] = some (rgC 0 0 0 0) := by kernel_rfl
/-- Naturals 0, so many. -/
theorem nats_zero {w : World} {g n : Nat} (h : Row w g (nsC n fun _ => 0) 24) : NatsAt w (some ⟨g, 0, none⟩) n (fun _ => 0) g 0 (nsC n fun _ => 0) 24 :=
  ⟨.inr ⟨rfl, h.r, fun i hi j v hv => by
    rw [Nat.zero_add]
    exact nsC_part n (fun _ => 0) i hi (i * 4) (by omega) j v hv⟩, fun _ _ => by decide⟩

theorem zero4 : ∀ i, i < ((Value.agg #[.int .u64 0, .int .u64 0, .int .u64 0, .int .u64 0]).cells).size → ((Value.agg #[.int .u64 0, .int .u64 0, .int .u64 0, .int .u64 0]).cells)[i]! = .int .u64 0 := by
  intro i hi
  match i, hi with
  | 0, _ => rfl
  | 1, _ => rfl
  | 2, _ => rfl
  | 3, _ => rfl
theorem nob_cells (w : World) (g : Nat) (h : Row w g (rgC 0 0 0 0) 53) (i : Nat) (hi : i < 2) : ∃ v : Option Addr, (#[.pointer none, .pointer (some ⟨g, 0, none⟩)] : Array Value)[0 + i * 1]? = some (.pointer v) ∧ Nob w v := by
  match i, hi with
  | 0, _ => exact ⟨none, rfl, .inl rfl⟩
  | 1, _ => exact ⟨_, rfl, .inr ⟨g, rfl, h⟩⟩

set_option maxRecDepth 100000 in
set_option maxHeartbeats 4000000 in
theorem core (A B Z R7 : Nat) (RG : Array Value) (w : World) (cs64 : Array Value) (ie : TypeInfo) (hie : Try.prog.info? 24 = some ie) (hz : ie.zero = some (.agg #[.int .u64 0, .int .u64 0, .int .u64 0, .int .u64 0])) (hsz : ie.size = 4) (hby : ie.bytes = 32)
    (h64 : madeCells ((Value.agg #[.int .u64 0, .int .u64 0, .int .u64 0, .int .u64 0]).cells) (64 * ie.size) = cs64)
    (o7 : ∀ w', Calls Try.prog 21 #[.int .i64 7] w' fun e w2 => e = .returned (.agg (natC R7)) ∧ Below w'.heap.size w' w2)
    (hnew : ∀ w', Calls Try.prog 9 #[.agg (natC R7)] w' fun e w2 => ∃ g, e = .returned (.tuple #[.pointer (some ⟨g, 0, none⟩), .int .i64 0]) ∧ w'.heap.size ≤ g ∧ Row w2 g RG 53 ∧ Below w'.heap.size w' w2)
    (hbig : ∀ g x y w', Row w' g RG 53 → Calls Try.prog 26 #[.pointer (some ⟨g, 0, none⟩), .slice (some ⟨x, 0, none⟩) 65 65, .slice (some ⟨y, 0, none⟩) 65 65] w' fun e w2 => e = .returned (.tuple #[.agg (natC 0), .int .i64 1]) ∧ Below w'.heap.size w' w2)
    (hall : ∀ g x y w', Row w' g RG 53 → Row w' x cs64 24 → Row w' y cs64 24 → Calls Try.prog 26 #[.pointer (some ⟨g, 0, none⟩), .slice (some ⟨x, 0, none⟩) 64 64, .slice (some ⟨y, 0, none⟩) 64 64] w' fun e w2 => e = .returned (.tuple #[.agg (natC Z), .int .i64 0]) ∧ Below w'.heap.size w' w2) :
    Calls Try.prog 7 #[.agg (natC A), .agg (natC B)] w fun e w' => e = .returned (.bool true) ∧ Below w.heap.size w w' := by
  have haw := awake3_any
  go_enter Try.func7, Try.ntmps7
  (repeat ((fail_if_success (with_reducible show Code.wp _ (Code.region _ _ _) _ _ _)); go_step))
  apply wp_region_mixp [] [_, _, _] trivial List.nodup_nil
  · intro p
    refine mx_box 24 _ rfl _ rfl ?_
    simp only [Act.put, List.setIfInBounds_toArray, List.set_cons_zero, List.set_cons_succ]
    refine mx_box 24 _ rfl _ rfl ?_
    simp only [Act.put, List.setIfInBounds_toArray, List.set_cons_zero, List.set_cons_succ]
    refine mx_val (.bool false) (fun _ => rfl) ?_
    simp only [Act.put, List.setIfInBounds_toArray, List.set_cons_zero, List.set_cons_succ]
    refine mx_end ?_
    intro w2 hkw hrw hnew hdis
    have n2 := hnew 0 rfl
    have n3 := hnew 1 rfl
    have zr2 : Row w2 (p 0) (natC A) 24 := hrw 1 (24, natC A) rfl
    have zr3 : Row w2 (p 1) (natC B) 24 := hrw 3 (24, natC B) rfl
    have d2x3 := hdis 0 1 (by omega) rfl rfl
    have sb := hkw.below w.heap.size (Nat.le_refl _) (by simp)
    have b2 : w.heap.size ≤ p 0 := n2
    have b3 : w.heap.size ≤ p 1 := n3
    clear hkw hrw hnew hdis n2 n3
    generalize p 0 = g2 at *
    generalize p 1 = g3 at *
    have r2 := zr2
    clear zr2
    have r3 := zr3
    clear zr3
    go_wp2_with (first
      | refine wpList_build_zero rfl 53 rfl _ built_ring ?_
      | refine wpList_box_row rfl 53 _ rfl _ rfl ?_)
    have r17 : Row ((w2.alloc (.cells (rgC 0 0 0 0) 53)).alloc (.cells #[.pointer none, .pointer (some ⟨w2.heap.size, 0, none⟩)] 25)) w2.heap.size (rgC 0 0 0 0) 53 := (Row.here rfl).alloc _
    have r18 : Row ((w2.alloc (.cells (rgC 0 0 0 0) 53)).alloc (.cells #[.pointer none, .pointer (some ⟨w2.heap.size, 0, none⟩)] 25)) (w2.heap.size + 1) #[.pointer none, .pointer (some ⟨w2.heap.size, 0, none⟩)] 25 := Row.here (by simp only [alloc_size])
    replace r2 := (r2.alloc (.cells (rgC 0 0 0 0) 53)).alloc (.cells #[.pointer none, .pointer (some ⟨w2.heap.size, 0, none⟩)] 25)
    replace r3 := (r3.alloc (.cells (rgC 0 0 0 0) 53)).alloc (.cells #[.pointer none, .pointer (some ⟨w2.heap.size, 0, none⟩)] 25)
    have sz := sb.size
    replace sb := (sb.alloc sz (.cells (rgC 0 0 0 0) 53)).alloc (by simp only [alloc_size]; omega) (.cells #[.pointer none, .pointer (some ⟨w2.heap.size, 0, none⟩)] 25)
    clear sz
    generalize (w2.alloc (.cells (rgC 0 0 0 0) 53)).alloc (.cells #[.pointer none, .pointer (some ⟨w2.heap.size, 0, none⟩)] 25) = w3 at *
    generalize w2.heap.size + 1 = g18 at *
    generalize w2.heap.size = g17 at *
    go_loopg [6] 2 (fun g s6 wr => ∃ i : Nat, i + g = 2 ∧ s6 = .int .i64 i ∧ Row wr g2 (natC A) 24 ∧ Row wr g3 (natC B) 24 ∧ Row wr g17 (rgC 0 0 0 0) 53 ∧ Row wr g18 #[.pointer none, .pointer (some ⟨g17, 0, none⟩)] 25 ∧ Below w.heap.size w wr)
    case atStart => exact ⟨0, by omega, rfl, r2, r3, r17, r18, sb⟩
    case round =>
      clear r2 r3 r17 r18 sb
      obtain ⟨i, hi, rfl, r2, r3, r17, r18, sb⟩ := hrel
      cases gk with
      | zero =>
        obtain rfl : i = 2 := by omega
        clear hi r2 r3 r17 r18
        (repeat ((fail_if_success (with_reducible show Code.wp _ (Code.region _ _ _) _ _ _)); go_step))
        apply wp_region_mixp [] [_, _, _, _] trivial List.nodup_nil
        · intro p
          refine mx_move rfl rfl ?_
          simp only [Act.put, List.setIfInBounds_toArray, List.set_cons_zero, List.set_cons_succ]
          refine mx_move rfl rfl ?_
          simp only [Act.put, List.setIfInBounds_toArray, List.set_cons_zero, List.set_cons_succ]
          refine mx_val (.int .i64 2) (exec_len_s 54 _ rfl (some ⟨g18, 0, none⟩) 2 2 rfl sl_ring) ?_
          simp only [Act.put, List.setIfInBounds_toArray, List.set_cons_zero, List.set_cons_succ]
          refine mx_val (.bool false) (fun w' => (exec_lt_i _ _ _ _ rfl ((2 : Nat) : Int) 2 rfl rfl w').trans (by rw [decide_eq_false (by omega)])) ?_
          simp only [Act.put, List.setIfInBounds_toArray, List.set_cons_zero, List.set_cons_succ]
          refine mx_end ?_
          intro w4 hkw hrw hnew hdis
          replace sb := sb.trans (hkw.below w.heap.size sb.size (by simp <;> omega))
          clear hkw hrw hnew hdis
          go_wp2_with fail
          refine (o7 _).mono ?_
          rintro _ wa ⟨rfl, ba⟩
          dsimp only
          replace sb := below_on sb (Nat.le_refl _) ba
          clear ba
          go_wp2_with fail
          refine (hnew _).mono ?_
          rintro _ wb ⟨g10, rfl, hg10, r10, bb⟩
          have b10 : w.heap.size ≤ g10 := Nat.le_trans sb.size hg10
          replace sb := below_on sb (Nat.le_refl _) bb
          clear bb hg10 hnew o7
          dsimp only
          (repeat ((fail_if_success (with_reducible show Code.wp _ (Code.region _ _ _) _ _ _)); go_step))
          apply wp_region_mix (by kernel_rfl) [] [_, _, _, _, _, _, _, _, _, _] trivial List.nodup_nil
          · intro p
            refine mx_move rfl rfl ?_
            simp only [Act.put, List.setIfInBounds_toArray, List.set_cons_zero, List.set_cons_succ]
            refine mx_make 49 24 _ _ rfl ie _ Try.underlying49 hie hz 65 rfl rfl (by rw [hsz]; decide) (by rw [hby]; decide) (by decide) ?_
            simp only [Act.put, List.setIfInBounds_toArray, List.set_cons_zero, List.set_cons_succ]
            refine mx_make 49 24 _ _ rfl ie _ Try.underlying49 hie hz 65 rfl rfl (by rw [hsz]; decide) (by rw [hby]; decide) (by decide) ?_
            simp only [Act.put, List.setIfInBounds_toArray, List.set_cons_zero, List.set_cons_succ]
            refine mx_callK 26 _ _ rfl Try.func26 (by kernel_rfl) #[.pointer (some ⟨g10, 0, none⟩), .slice (some ⟨p 1, 0, none⟩) 65 65, .slice (some ⟨p 2, 0, none⟩) 65 65] rfl _ (fun w' hk => hbig g10 (p 1) (p 2) w' (hk.row r10 (by simp))) ?_
            simp only [Act.put, List.setIfInBounds_toArray, List.set_cons_zero, List.set_cons_succ]
            refine mx_move rfl rfl ?_
            simp only [Act.put, List.setIfInBounds_toArray, List.set_cons_zero, List.set_cons_succ]
            refine mx_ext rfl rfl rfl ?_
            simp only [Act.put, List.setIfInBounds_toArray, List.set_cons_zero, List.set_cons_succ]
            refine mx_ext rfl rfl rfl ?_
            simp only [Act.put, List.setIfInBounds_toArray, List.set_cons_zero, List.set_cons_succ]
            refine mx_new 24 rfl _ zero_nat ?_
            simp only [Act.put, List.setIfInBounds_toArray, List.set_cons_zero, List.set_cons_succ]
            refine mx_put 15 24 _ _ rfl rfl rfl (natC 0) rfl (by exact size_nat) (by simp only [natC_size]) (natC_one _) ?_
            simp only [Act.put]
            refine mx_asg rfl rfl ?_
            simp only [Act.put, List.setIfInBounds_toArray, List.set_cons_zero, List.set_cons_succ]
            refine mx_end ?_
            intro w5 hkw _ _ _
            replace r10 := hkw.row r10 (by simp)
            replace sb := sb.trans (hkw.below w.heap.size sb.size (by simp))
            clear hkw hbig
            generalize p 7 = g12 at *
            (repeat ((fail_if_success (with_reducible show Code.wp _ (Code.region _ _ _) _ _ _)); go_step))
            apply wp_region_mix (by kernel_rfl) [] [_, _, _, _, _, _, _, _, _, _] trivial List.nodup_nil
            · intro p
              refine mx_move rfl rfl ?_
              simp only [Act.put, List.setIfInBounds_toArray, List.set_cons_zero, List.set_cons_succ]
              refine mx_make 49 24 _ _ rfl ie _ Try.underlying49 hie hz 64 rfl rfl (by rw [hsz]; decide) (by rw [hby]; decide) (by decide) ?_
              simp only [Act.put, List.setIfInBounds_toArray, List.set_cons_zero, List.set_cons_succ]
              refine mx_make 49 24 _ _ rfl ie _ Try.underlying49 hie hz 64 rfl rfl (by rw [hsz]; decide) (by rw [hby]; decide) (by decide) ?_
              simp only [Act.put, List.setIfInBounds_toArray, List.set_cons_zero, List.set_cons_succ]
              refine mx_callR 26 _ _ rfl Try.func26 (by kernel_rfl) #[.pointer (some ⟨g10, 0, none⟩), .slice (some ⟨p 1, 0, none⟩) 64 64, .slice (some ⟨p 2, 0, none⟩) 64 64] rfl (.tuple #[.agg (natC Z), .int .i64 0]) [3, 5] (fun w' hk hr => hall g10 (p 1) (p 2) w' (hk.row r10 (by simp)) (h64 ▸ hr 3 (by simp) (24, madeCells _ (64 * ie.size)) rfl) (h64 ▸ hr 5 (by simp) (24, madeCells _ (64 * ie.size)) rfl)) ?_
              simp only [Act.put, List.setIfInBounds_toArray, List.set_cons_zero, List.set_cons_succ]
              refine mx_move rfl rfl ?_
              simp only [Act.put, List.setIfInBounds_toArray, List.set_cons_zero, List.set_cons_succ]
              refine mx_ext rfl rfl rfl ?_
              simp only [Act.put, List.setIfInBounds_toArray, List.set_cons_zero, List.set_cons_succ]
              refine mx_ext rfl rfl rfl ?_
              simp only [Act.put, List.setIfInBounds_toArray, List.set_cons_zero, List.set_cons_succ]
              refine mx_new 24 rfl _ zero_nat ?_
              simp only [Act.put, List.setIfInBounds_toArray, List.set_cons_zero, List.set_cons_succ]
              refine mx_put 15 24 _ _ rfl rfl rfl (natC Z) rfl (by exact size_nat) (by simp only [natC_size]) (natC_one _) ?_
              simp only [Act.put]
              refine mx_asg rfl rfl ?_
              simp only [Act.put, List.setIfInBounds_toArray, List.set_cons_zero, List.set_cons_succ]
              refine mx_end ?_
              intro w6 hkw _ _ _
              replace sb := sb.trans (hkw.below w.heap.size sb.size (by simp))
              clear hkw hall
              generalize p 7 = g14 at *
              (repeat ((fail_if_success (with_reducible show Code.wp _ (Code.region _ _ _) _ _ _)); go_step))
              refine wp_region_qp ?_
              refine qw_move (by rfl) rfl rfl ?_
              simp only [Act.put, List.setIfInBounds_toArray, List.set_cons_zero, List.set_cons_succ]
              refine qw_value (by rfl) (.bool true) (exec_eql_k .i64 _ _ _ _ rfl 0 0 rfl rfl true rfl) ?_
              simp only [Act.put, List.setIfInBounds_toArray, List.set_cons_zero, List.set_cons_succ]
              refine qw_move (by rfl) rfl rfl ?_
              simp only [Act.put, List.setIfInBounds_toArray, List.set_cons_zero, List.set_cons_succ]
              refine qw_move (by rfl) rfl rfl ?_
              simp only [Act.put, List.setIfInBounds_toArray, List.set_cons_zero, List.set_cons_succ]
              refine qw_value (by rfl) (.bool true) (exec_eql_k .i64 _ _ _ _ rfl 1 1 rfl rfl true rfl) ?_
              simp only [Act.put, List.setIfInBounds_toArray, List.set_cons_zero, List.set_cons_succ]
              refine qw_pick true (v := .bool true) (by rfl) rfl rfl rfl ?_
              simp only [Act.put, List.setIfInBounds_toArray, List.set_cons_zero, List.set_cons_succ]
              refine qw_move (by rfl) rfl rfl ?_
              simp only [Act.put, List.setIfInBounds_toArray, List.set_cons_zero, List.set_cons_succ]
              refine qw_move (by rfl) rfl rfl ?_
              simp only [Act.put, List.setIfInBounds_toArray, List.set_cons_zero, List.set_cons_succ]
              refine qw_value (by rfl) (.bool true) (exec_eql_k .i64 _ _ _ _ rfl 0 0 rfl rfl true rfl) ?_
              simp only [Act.put, List.setIfInBounds_toArray, List.set_cons_zero, List.set_cons_succ]
              refine qw_pick true (v := .bool true) (by rfl) rfl rfl rfl ?_
              simp only [Act.put, List.setIfInBounds_toArray, List.set_cons_zero, List.set_cons_succ]
              refine qw_move (by rfl) rfl rfl ?_
              simp only [Act.put, List.setIfInBounds_toArray, List.set_cons_zero, List.set_cons_succ]
              refine qw_call (by rfl) 11 _ _ rfl Try.func11 (by kernel_rfl) #[] rfl _ haw ?_
              simp only [Act.put, List.setIfInBounds_toArray, List.set_cons_zero, List.set_cons_succ]
              refine qw_pick true (v := .bool true) (by rfl) rfl rfl rfl ?_
              simp only [Act.put, List.setIfInBounds_toArray, List.set_cons_zero, List.set_cons_succ]
              refine qw_asg (by rfl) rfl rfl ?_
              simp only [Act.put, List.setIfInBounds_toArray, List.set_cons_zero, List.set_cons_succ]
              refine qw_nil ?_
              intro w7 hqb
              replace sb := below_on sb (Nat.le_refl _) hqb
              clear hqb
              go_wp2
              go_ret
              exact ⟨rfl, sb⟩
            · kernel_rfl
          · kernel_rfl
        · rfl
      | succ g =>
        have hlt : i < 2 := by omega
        obtain ⟨v, hc, hN⟩ := nob_cells wr g17 r17 i hlt
        clear haw hnew o7 hbig hall
        (repeat ((fail_if_success (with_reducible show Code.wp _ (Code.region _ _ _) _ _ _)); go_step))
        apply wp_region_mixp [] [_, _, _, _] trivial List.nodup_nil
        · intro p
          refine mx_move rfl rfl ?_
          simp only [Act.put, List.setIfInBounds_toArray, List.set_cons_zero, List.set_cons_succ]
          refine mx_move rfl rfl ?_
          simp only [Act.put, List.setIfInBounds_toArray, List.set_cons_zero, List.set_cons_succ]
          refine mx_val (.int .i64 2) (exec_len_s 54 _ rfl (some ⟨g18, 0, none⟩) 2 2 rfl sl_ring) ?_
          simp only [Act.put, List.setIfInBounds_toArray, List.set_cons_zero, List.set_cons_succ]
          refine mx_val (.bool true) (fun w' => (exec_lt_i _ _ _ _ rfl i 2 rfl rfl w').trans (by rw [decide_eq_true (by omega)])) ?_
          simp only [Act.put, List.setIfInBounds_toArray, List.set_cons_zero, List.set_cons_succ]
          refine mx_end ?_
          intro w4 hkw _ _ _
          replace r2 := hkw.row r2 (by simp)
          replace r3 := hkw.row r3 (by simp)
          replace r17 := hkw.row r17 (by simp)
          replace r18 := hkw.row r18 (by simp)
          replace hN := hN.on hkw
          replace sb := sb.trans (hkw.below w.heap.size sb.size (by simp))
          clear hkw
          (repeat ((fail_if_success (with_reducible show Code.wp _ (Code.region _ _ _) _ _ _)); go_step))
          apply wp_region_mixp [] [_, _, _, _, _, _, _, _, _, _, _] trivial List.nodup_nil
          · intro p
            refine mx_move rfl rfl ?_
            simp only [Act.put, List.setIfInBounds_toArray, List.set_cons_zero, List.set_cons_succ]
            refine mx_move rfl rfl ?_
            simp only [Act.put, List.setIfInBounds_toArray, List.set_cons_zero, List.set_cons_succ]
            refine mx_val (.pointer (some ⟨g18, 0 + i * 1, none⟩)) (exec_index_s 54 _ _ rfl g18 0 2 2 rfl i rfl hlt _ Try.underlying54 1 Try.sizeOf25) ?_
            simp only [Act.put, List.setIfInBounds_toArray, List.set_cons_zero, List.set_cons_succ]
            refine mx_loadc 25 _ rfl _ (0 + i * 1) rfl r18 (by simp <;> omega) (.pointer v) hc Try.isAgg25 ?_
            simp only [Act.put, List.setIfInBounds_toArray, List.set_cons_zero, List.set_cons_succ]
            refine mx_callK 26 _ _ rfl Try.func26 (by kernel_rfl) #[.pointer v, .slice none 0 0, .slice none 0 0] rfl _ (fun w' hk => prod_no v none none 0 0 0 0 w' (hN.on hk)) ?_
            simp only [Act.put, List.setIfInBounds_toArray, List.set_cons_zero, List.set_cons_succ]
            refine mx_move rfl rfl ?_
            simp only [Act.put, List.setIfInBounds_toArray, List.set_cons_zero, List.set_cons_succ]
            refine mx_ext rfl rfl rfl ?_
            simp only [Act.put, List.setIfInBounds_toArray, List.set_cons_zero, List.set_cons_succ]
            refine mx_ext rfl rfl rfl ?_
            simp only [Act.put, List.setIfInBounds_toArray, List.set_cons_zero, List.set_cons_succ]
            refine mx_new 24 rfl _ zero_nat ?_
            simp only [Act.put, List.setIfInBounds_toArray, List.set_cons_zero, List.set_cons_succ]
            refine mx_put 17 24 _ _ rfl rfl rfl (natC 0) rfl (by exact size_nat) (by simp only [natC_size]) (natC_one _) ?_
            simp only [Act.put]
            refine mx_asg rfl rfl ?_
            simp only [Act.put, List.setIfInBounds_toArray, List.set_cons_zero, List.set_cons_succ]
            refine mx_end ?_
            intro w5 hkw hrw _ _
            have r7 : Row w5 (p 8) (natC 0) 24 := hrw 17 (24, natC 0) rfl
            replace r2 := hkw.row r2 (by simp)
            replace r3 := hkw.row r3 (by simp)
            replace r17 := hkw.row r17 (by simp)
            replace r18 := hkw.row r18 (by simp)
            replace hN := hN.on hkw
            replace sb := sb.trans (hkw.below w.heap.size sb.size (by simp))
            clear hkw hrw
            generalize p 8 = g7 at *
            (repeat ((fail_if_success (with_reducible show Code.wp _ (Code.region _ _ _) _ _ _)); go_step))
            apply wp_region_mixp [] [_, _, _] trivial List.nodup_nil
            · intro p
              refine mx_val (.agg (natC 0)) (exec_build0 24 rfl _ built_nat) ?_
              simp only [Act.put, List.setIfInBounds_toArray, List.set_cons_zero, List.set_cons_succ]
              refine mx_new 24 rfl _ zero_nat ?_
              simp only [Act.put, List.setIfInBounds_toArray, List.set_cons_zero, List.set_cons_succ]
              refine mx_put 3 24 _ _ rfl rfl rfl (natC 0) rfl (by exact size_nat) (by simp only [natC_size]) (natC_one _) ?_
              simp only [Act.put]
              refine mx_end ?_
              intro w6 hkw hrw _ _
              have r9 : Row w6 (p 1) (natC 0) 24 := hrw 3 (24, natC 0) rfl
              replace r2 := hkw.row r2 (by simp)
              replace r3 := hkw.row r3 (by simp)
              replace r7 := hkw.row r7 (by simp)
              replace r17 := hkw.row r17 (by simp)
              replace r18 := hkw.row r18 (by simp)
              replace hN := hN.on hkw
              replace sb := sb.trans (hkw.below w.heap.size sb.size (by simp))
              clear hkw hrw
              generalize p 1 = g9 at *
              (repeat ((fail_if_success (with_reducible show Code.wp _ (Code.region _ _ _) _ _ _)); go_step))
              refine wp_region_qw (by kernel_rfl) (by kernel_rfl) ?_
              refine qw_move (by rfl) rfl rfl ?_
              simp only [Act.put, List.setIfInBounds_toArray, List.set_cons_zero, List.set_cons_succ]
              refine qw_move (by rfl) rfl rfl ?_
              simp only [Act.put, List.setIfInBounds_toArray, List.set_cons_zero, List.set_cons_succ]
              refine qw_value (by rfl) (.pointer (some ⟨g18, 0 + i * 1, none⟩)) (exec_index_s 54 _ _ rfl g18 0 2 2 rfl i rfl hlt _ Try.underlying54 1 Try.sizeOf25) ?_
              simp only [Act.put, List.setIfInBounds_toArray, List.set_cons_zero, List.set_cons_succ]
              refine qw_loadc (by rfl) 25 _ rfl _ (0 + i * 1) rfl r18 (.pointer v) hc Try.isAgg25 ?_
              simp only [Act.put, List.setIfInBounds_toArray, List.set_cons_zero, List.set_cons_succ]
              refine qw_callK (by rfl) 15 _ _ rfl Try.func15 (by kernel_rfl) #[.pointer v] rfl _ (fun w' hb => ringM_no v w' (hN.below hb)) ?_
              simp only [Act.put, List.setIfInBounds_toArray, List.set_cons_zero, List.set_cons_succ]
              refine qw_load (by rfl) 24 _ rfl _ rfl r9 4 _ Try.underlying24 size_nat ?_
              simp only [Act.put, List.setIfInBounds_toArray, List.set_cons_zero, List.set_cons_succ]
              refine qw_value (by rfl) (.bool false) (fun w' => (exec_neq_nat _ _ _ rfl 0 0 rfl rfl w').trans (by rw [decide_eq_true rfl]; rfl)) ?_
              simp only [Act.put, List.setIfInBounds_toArray, List.set_cons_zero, List.set_cons_succ]
              refine qw_move (by rfl) rfl rfl ?_
              simp only [Act.put, List.setIfInBounds_toArray, List.set_cons_zero, List.set_cons_succ]
              refine qw_move (by rfl) rfl rfl ?_
              simp only [Act.put, List.setIfInBounds_toArray, List.set_cons_zero, List.set_cons_succ]
              refine qw_move (by rfl) rfl rfl ?_
              simp only [Act.put, List.setIfInBounds_toArray, List.set_cons_zero, List.set_cons_succ]
              refine qw_value (by rfl) (.pointer (some ⟨g18, 0 + i * 1, none⟩)) (exec_index_s 54 _ _ rfl g18 0 2 2 rfl i rfl hlt _ Try.underlying54 1 Try.sizeOf25) ?_
              simp only [Act.put, List.setIfInBounds_toArray, List.set_cons_zero, List.set_cons_succ]
              refine qw_loadc (by rfl) 25 _ rfl _ (0 + i * 1) rfl r18 (.pointer v) hc Try.isAgg25 ?_
              simp only [Act.put, List.setIfInBounds_toArray, List.set_cons_zero, List.set_cons_succ]
              refine qw_load (by rfl) 24 _ rfl _ rfl r2 4 _ Try.underlying24 size_nat ?_
              simp only [Act.put, List.setIfInBounds_toArray, List.set_cons_zero, List.set_cons_succ]
              refine qw_callK (by rfl) 16 _ _ rfl Try.func16 (by kernel_rfl) #[.pointer v, .agg (natC A)] rfl _ (fun w' hb => in_no v A w' (hN.below hb)) ?_
              simp only [Act.put, List.setIfInBounds_toArray, List.set_cons_zero, List.set_cons_succ]
              refine qw_pick false (v := .bool false) (by rfl) rfl rfl rfl ?_
              simp only [Act.put, List.setIfInBounds_toArray, List.set_cons_zero, List.set_cons_succ]
              refine qw_move (by rfl) rfl rfl ?_
              simp only [Act.put, List.setIfInBounds_toArray, List.set_cons_zero, List.set_cons_succ]
              refine qw_move (by rfl) rfl rfl ?_
              simp only [Act.put, List.setIfInBounds_toArray, List.set_cons_zero, List.set_cons_succ]
              refine qw_move (by rfl) rfl rfl ?_
              simp only [Act.put, List.setIfInBounds_toArray, List.set_cons_zero, List.set_cons_succ]
              refine qw_value (by rfl) (.pointer (some ⟨g18, 0 + i * 1, none⟩)) (exec_index_s 54 _ _ rfl g18 0 2 2 rfl i rfl hlt _ Try.underlying54 1 Try.sizeOf25) ?_
              simp only [Act.put, List.setIfInBounds_toArray, List.set_cons_zero, List.set_cons_succ]
              refine qw_loadc (by rfl) 25 _ rfl _ (0 + i * 1) rfl r18 (.pointer v) hc Try.isAgg25 ?_
              simp only [Act.put, List.setIfInBounds_toArray, List.set_cons_zero, List.set_cons_succ]
              refine qw_load (by rfl) 24 _ rfl _ rfl r2 4 _ Try.underlying24 size_nat ?_
              simp only [Act.put, List.setIfInBounds_toArray, List.set_cons_zero, List.set_cons_succ]
              refine qw_load (by rfl) 24 _ rfl _ rfl r3 4 _ Try.underlying24 size_nat ?_
              simp only [Act.put, List.setIfInBounds_toArray, List.set_cons_zero, List.set_cons_succ]
              refine qw_callK (by rfl) 14 _ _ rfl Try.func14 (by kernel_rfl) #[.pointer v, .agg (natC A), .agg (natC B)] rfl _ (fun w' hb => mul_no v A B w' (hN.below hb)) ?_
              simp only [Act.put, List.setIfInBounds_toArray, List.set_cons_zero, List.set_cons_succ]
              refine qw_load (by rfl) 24 _ rfl _ rfl r9 4 _ Try.underlying24 size_nat ?_
              simp only [Act.put, List.setIfInBounds_toArray, List.set_cons_zero, List.set_cons_succ]
              refine qw_value (by rfl) (.bool false) (fun w' => (exec_neq_nat _ _ _ rfl 0 0 rfl rfl w').trans (by rw [decide_eq_true rfl]; rfl)) ?_
              simp only [Act.put, List.setIfInBounds_toArray, List.set_cons_zero, List.set_cons_succ]
              refine qw_pick false (v := .bool false) (by rfl) rfl rfl rfl ?_
              simp only [Act.put, List.setIfInBounds_toArray, List.set_cons_zero, List.set_cons_succ]
              refine qw_move (by rfl) rfl rfl ?_
              simp only [Act.put, List.setIfInBounds_toArray, List.set_cons_zero, List.set_cons_succ]
              refine qw_move (by rfl) rfl rfl ?_
              simp only [Act.put, List.setIfInBounds_toArray, List.set_cons_zero, List.set_cons_succ]
              refine qw_move (by rfl) rfl rfl ?_
              simp only [Act.put, List.setIfInBounds_toArray, List.set_cons_zero, List.set_cons_succ]
              refine qw_value (by rfl) (.pointer (some ⟨g18, 0 + i * 1, none⟩)) (exec_index_s 54 _ _ rfl g18 0 2 2 rfl i rfl hlt _ Try.underlying54 1 Try.sizeOf25) ?_
              simp only [Act.put, List.setIfInBounds_toArray, List.set_cons_zero, List.set_cons_succ]
              refine qw_loadc (by rfl) 25 _ rfl _ (0 + i * 1) rfl r18 (.pointer v) hc Try.isAgg25 ?_
              simp only [Act.put, List.setIfInBounds_toArray, List.set_cons_zero, List.set_cons_succ]
              refine qw_load (by rfl) 24 _ rfl _ rfl r2 4 _ Try.underlying24 size_nat ?_
              simp only [Act.put, List.setIfInBounds_toArray, List.set_cons_zero, List.set_cons_succ]
              refine qw_load (by rfl) 24 _ rfl _ rfl r3 4 _ Try.underlying24 size_nat ?_
              simp only [Act.put, List.setIfInBounds_toArray, List.set_cons_zero, List.set_cons_succ]
              refine qw_callK (by rfl) 22 _ _ rfl Try.func22 (by kernel_rfl) #[.pointer v, .agg (natC A), .agg (natC B)] rfl _ (fun w' hb => exp_no v A B w' (hN.below hb)) ?_
              simp only [Act.put, List.setIfInBounds_toArray, List.set_cons_zero, List.set_cons_succ]
              refine qw_load (by rfl) 24 _ rfl _ rfl r9 4 _ Try.underlying24 size_nat ?_
              simp only [Act.put, List.setIfInBounds_toArray, List.set_cons_zero, List.set_cons_succ]
              refine qw_value (by rfl) (.bool false) (fun w' => (exec_neq_nat _ _ _ rfl 0 0 rfl rfl w').trans (by rw [decide_eq_true rfl]; rfl)) ?_
              simp only [Act.put, List.setIfInBounds_toArray, List.set_cons_zero, List.set_cons_succ]
              refine qw_pick false (v := .bool false) (by rfl) rfl rfl rfl ?_
              simp only [Act.put, List.setIfInBounds_toArray, List.set_cons_zero, List.set_cons_succ]
              refine qw_move (by rfl) rfl rfl ?_
              simp only [Act.put, List.setIfInBounds_toArray, List.set_cons_zero, List.set_cons_succ]
              refine qw_load (by rfl) 24 _ rfl _ rfl r7 4 _ Try.underlying24 size_nat ?_
              simp only [Act.put, List.setIfInBounds_toArray, List.set_cons_zero, List.set_cons_succ]
              refine qw_load (by rfl) 24 _ rfl _ rfl r9 4 _ Try.underlying24 size_nat ?_
              simp only [Act.put, List.setIfInBounds_toArray, List.set_cons_zero, List.set_cons_succ]
              refine qw_value (by rfl) (.bool false) (fun w' => (exec_neq_nat _ _ _ rfl 0 0 rfl rfl w').trans (by rw [decide_eq_true rfl]; rfl)) ?_
              simp only [Act.put, List.setIfInBounds_toArray, List.set_cons_zero, List.set_cons_succ]
              refine qw_pick false (v := .bool false) (by rfl) rfl rfl rfl ?_
              simp only [Act.put, List.setIfInBounds_toArray, List.set_cons_zero, List.set_cons_succ]
              refine qw_move (by rfl) rfl rfl ?_
              simp only [Act.put, List.setIfInBounds_toArray, List.set_cons_zero, List.set_cons_succ]
              refine qw_move (by rfl) rfl rfl ?_
              simp only [Act.put, List.setIfInBounds_toArray, List.set_cons_zero, List.set_cons_succ]
              refine qw_value (by rfl) (.bool false) (exec_neq_k .i64 _ _ _ _ rfl 1 1 rfl rfl false rfl) ?_
              simp only [Act.put, List.setIfInBounds_toArray, List.set_cons_zero, List.set_cons_succ]
              refine qw_pick false (v := .bool false) (by rfl) rfl rfl rfl ?_
              simp only [Act.put, List.setIfInBounds_toArray, List.set_cons_zero, List.set_cons_succ]
              refine qw_move (by rfl) rfl rfl ?_
              simp only [Act.put, List.setIfInBounds_toArray, List.set_cons_zero, List.set_cons_succ]
              refine qw_move (by rfl) rfl rfl ?_
              simp only [Act.put, List.setIfInBounds_toArray, List.set_cons_zero, List.set_cons_succ]
              refine qw_move (by rfl) rfl rfl ?_
              simp only [Act.put, List.setIfInBounds_toArray, List.set_cons_zero, List.set_cons_succ]
              refine qw_value (by rfl) (.pointer (some ⟨g18, 0 + i * 1, none⟩)) (exec_index_s 54 _ _ rfl g18 0 2 2 rfl i rfl hlt _ Try.underlying54 1 Try.sizeOf25) ?_
              simp only [Act.put, List.setIfInBounds_toArray, List.set_cons_zero, List.set_cons_succ]
              refine qw_loadc (by rfl) 25 _ rfl _ (0 + i * 1) rfl r18 (.pointer v) hc Try.isAgg25 ?_
              simp only [Act.put, List.setIfInBounds_toArray, List.set_cons_zero, List.set_cons_succ]
              refine qw_load (by rfl) 24 _ rfl _ rfl r2 4 _ Try.underlying24 size_nat ?_
              simp only [Act.put, List.setIfInBounds_toArray, List.set_cons_zero, List.set_cons_succ]
              refine qw_callK (by rfl) 18 _ _ rfl Try.func18 (by kernel_rfl) #[.pointer v, .agg (natC A)] rfl _ (fun w' hb => form_no v A w' (hN.below hb)) ?_
              simp only [Act.put, List.setIfInBounds_toArray, List.set_cons_zero, List.set_cons_succ]
              refine qw_load (by rfl) 24 _ rfl _ rfl r9 4 _ Try.underlying24 size_nat ?_
              simp only [Act.put, List.setIfInBounds_toArray, List.set_cons_zero, List.set_cons_succ]
              refine qw_value (by rfl) (.bool false) (fun w' => (exec_neq_nat _ _ _ rfl 0 0 rfl rfl w').trans (by rw [decide_eq_true rfl]; rfl)) ?_
              simp only [Act.put, List.setIfInBounds_toArray, List.set_cons_zero, List.set_cons_succ]
              refine qw_pick false (v := .bool false) (by rfl) rfl rfl rfl ?_
              simp only [Act.put, List.setIfInBounds_toArray, List.set_cons_zero, List.set_cons_succ]
              refine qw_move (by rfl) rfl rfl ?_
              simp only [Act.put, List.setIfInBounds_toArray, List.set_cons_zero, List.set_cons_succ]
              refine qw_move (by rfl) rfl rfl ?_
              simp only [Act.put, List.setIfInBounds_toArray, List.set_cons_zero, List.set_cons_succ]
              refine qw_move (by rfl) rfl rfl ?_
              simp only [Act.put, List.setIfInBounds_toArray, List.set_cons_zero, List.set_cons_succ]
              refine qw_value (by rfl) (.pointer (some ⟨g18, 0 + i * 1, none⟩)) (exec_index_s 54 _ _ rfl g18 0 2 2 rfl i rfl hlt _ Try.underlying54 1 Try.sizeOf25) ?_
              simp only [Act.put, List.setIfInBounds_toArray, List.set_cons_zero, List.set_cons_succ]
              refine qw_loadc (by rfl) 25 _ rfl _ (0 + i * 1) rfl r18 (.pointer v) hc Try.isAgg25 ?_
              simp only [Act.put, List.setIfInBounds_toArray, List.set_cons_zero, List.set_cons_succ]
              refine qw_load (by rfl) 24 _ rfl _ rfl r2 4 _ Try.underlying24 size_nat ?_
              simp only [Act.put, List.setIfInBounds_toArray, List.set_cons_zero, List.set_cons_succ]
              refine qw_callK (by rfl) 20 _ _ rfl Try.func20 (by kernel_rfl) #[.pointer v, .agg (natC A)] rfl _ (fun w' hb => plain_no v A w' (hN.below hb)) ?_
              simp only [Act.put, List.setIfInBounds_toArray, List.set_cons_zero, List.set_cons_succ]
              refine qw_load (by rfl) 24 _ rfl _ rfl r9 4 _ Try.underlying24 size_nat ?_
              simp only [Act.put, List.setIfInBounds_toArray, List.set_cons_zero, List.set_cons_succ]
              refine qw_value (by rfl) (.bool false) (fun w' => (exec_neq_nat _ _ _ rfl 0 0 rfl rfl w').trans (by rw [decide_eq_true rfl]; rfl)) ?_
              simp only [Act.put, List.setIfInBounds_toArray, List.set_cons_zero, List.set_cons_succ]
              refine qw_pick false (v := .bool false) (by rfl) rfl rfl rfl ?_
              simp only [Act.put, List.setIfInBounds_toArray, List.set_cons_zero, List.set_cons_succ]
              refine qw_nil ?_
              intro w7 hqb
              replace r2 := r2.belowAll hqb
              replace r3 := r3.belowAll hqb
              replace r17 := r17.belowAll hqb
              replace r18 := r18.belowAll hqb
              replace sb := below_on sb (Nat.le_refl _) hqb
              clear hqb
              (repeat ((fail_if_success (with_reducible show Code.wp _ (Code.region _ _ _) _ _ _)); go_step))
              apply wp_region_mixp [] [_, _, _] trivial List.nodup_nil
              · intro p
                refine mx_move rfl rfl ?_
                simp only [Act.put, List.setIfInBounds_toArray, List.set_cons_zero, List.set_cons_succ]
                refine mx_val (.int .i64 ((i + 1 : Nat) : Int)) (exec_add_in _ _ _ _ rfl i 1 rfl rfl (by omega)) ?_
                simp only [Act.put, List.setIfInBounds_toArray, List.set_cons_zero, List.set_cons_succ]
                refine mx_asg rfl rfl ?_
                simp only [Act.put, List.setIfInBounds_toArray, List.set_cons_zero, List.set_cons_succ]
                refine mx_end ?_
                intro w8 hkw hrw hnew hdis
                replace r2 := hkw.row r2 (by simp <;> omega)
                replace r3 := hkw.row r3 (by simp <;> omega)
                replace r17 := hkw.row r17 (by simp <;> omega)
                replace r18 := hkw.row r18 (by simp <;> omega)
                replace sb := sb.trans (hkw.below w.heap.size sb.size (by simp <;> omega))
                clear hkw hrw hnew hdis
                go_wp2
                go_roundg g
                case measure => omega
                case rel => exact ⟨i + 1, by omega, rfl, r2, r3, r17, r18, sb⟩
              · rfl
            · rfl
          · rfl
        · rfl
  · rfl
theorem rg7 : RgQ 7 := ⟨by decide, by decide, by decide⟩
theorem walk (A B : Nat) (w : World) (_ : A < 2 ^ 256) (_ : B < 2 ^ 256) :
    Calls Try.prog 7 #[.agg (natC A), .agg (natC B)] w fun e w' => e = .returned (.bool true) ∧ Below w.heap.size w w' := by
  obtain ⟨ie, hie, hz, hsz, hby⟩ := info_nat'
  exact core A B (prd (fun _ => 0 ^ 0) 64 % 7) 7 _ w (nsC 64 fun _ => 0) ie hie hz hsz hby (made_ns 64 _ _ zero4 (by decide) (by rw [hsz]))
    (fun w' => of3_any 7 w' (by decide)) (fun w' => new_any 7 w' rg7.odd rg7.two rg7.m)
    (fun g x y w' r => prod_big _ _ _ 65 65 65 65 w' rfl (by decide) (fun w2 hb => given_any 7 _ _ _ g w2 (by decide) rg7.m (r.belowAll hb)))
    (fun g x y w' r rx ry => prod_ok 64 7 (fun _ => 0) (fun _ => 0) _ _ 64 64 x 0 y 0 _ _ 24 24 g w' ⟨by decide, rg7.m, rg7.odd, rg7.two, nats_zero rx, nats_zero ry⟩ r)

set_option maxRecDepth 100000 in
theorem lifted (os : Os) (started : os.Started) (H : Type) (enc : TypeId × Value → H) :
    ReturnsInHanded {} Try.checked os 7 .any (Rows.montNobodySpec.pre6 enc Try.prog Try.f7 Rows.montNobodyRow.domain false) (Rows.montNobodySpec.post enc Try.prog Try.f7 false true false false) := by
  refine returnsInHanded_of_change (C := Try.checked) own started (by kernel_rfl) Try.func7
    (ChangeSpec.witness6 (enc := enc) (C := Try.checked) false ⟨#[], #[.agg #[.int .u64 0, .int .u64 0, .int .u64 0, .int .u64 0], .agg #[.int .u64 0, .int .u64 0, .int .u64 0, .int .u64 0]], []⟩ 8 (by kernel_rfl) (by kernel_rfl) (by kernel_rfl) (by kernel_rfl)) ?_
  intro W base args ds gs before hval0 hW hcnd _
  have hval : ∀ (j : Nat) t v, Try.f7.params[j]? = some t → args[j]? = some v → Value.okWide Try.prog W .any base t v := hval0
  have hW' := hW
  obtain ⟨p, q, hA0, hV, rfl, hfz, hnd⟩ := hW
  have hA : DataW.TrodAll enc Try.prog W 0 (fun _ => true) true Try.f7.params.toList args.toList ds p := hA0
  rw [Try.params7] at hA hval
  obtain ⟨v0, vs0, d0, ds0, p0, q0, hargs, rfl, rfl, h0, r0⟩ := trodAll_cons hA
  obtain ⟨v1, vs1, d1, ds1, p1, q1, rfl, rfl, rfl, h1, r1⟩ := trodAll_cons r0
  obtain ⟨rfl, rfl, rfl⟩ := trodAll_nil r1
  obtain rfl : args = #[v0, v1] := by cases args; simp_all
  obtain ⟨rfl, rfl⟩ := trodVars_none hV
  have k0 := h0
  have lt0 := lt_of_trod h0
  obtain ⟨N0, hN0, rfl⟩ := open_nat (hval 0 24 v0 rfl rfl) h0
  have k1 := h1
  have lt1 := lt_of_trod h1
  obtain ⟨N1, hN1, rfl⟩ := open_nat (hval 1 24 v1 rfl rfl) h1
  clear hA0 hval0
  refine (walk N0 N1 W hN0 hN1).mono fun e W' ⟨he, bel⟩ => ?_
  subst he
  exact ⟨_, rfl, _, _, _, [], _, [], hW', trodAll_mk1 (shut_bool Try.underlying4 _), (trodAll_cons_mk (Below.trod laidOut (by kernel_rfl) (of_decide_eq_true (by kernel_rfl)) k0 bel lt0) (trodAll_cons_mk (Below.trod laidOut (by kernel_rfl) (of_decide_eq_true (by kernel_rfl)) k1 bel lt1) trodAll_mk0)), rfl, bel.frame _, fun h => by cases h⟩

theorem over : Rows.montNobodyRow.holds Try.pinned (OpenSpec.ofChange Rows.montNobodySpec) :=
  OpenClaim.holds_of_wide 7 Try.f7 rfl rfl rfl rfl rfl rfl rfl ⟨rfl, rfl, rfl, rfl, rfl⟩ rfl rfl rfl rfl rfl (by kernel_rfl) Try.func7 (by kernel_rfl)
    (of_decide_eq_true (by kernel_rfl)) (by unfold Func.isWrapper; first | (rw [if_pos (by decide +kernel)]; kernel_rfl) | (rw [if_neg (by decide +kernel)]; exact ⟨rfl, rfl⟩))
    (fun os started H enc _ => lifted os started H enc)

end montNobodyP

/-- for every two naturals: rings that nobody made answer nothing, and more than 64 powers are refused; no condition. -/
theorem montNobody_holds : Rows.MontNobodySaid := montNobodyP.over
end Go.Proofs.Ytcdfefljagddmaa
