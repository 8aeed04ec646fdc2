/- A space in memory, whole: what it answers, and what it is behind Open. -/
import Derived.Test.YtchiiphmpkmloaaSpOpn
namespace Go.Proofs.Ytchiiphmpkmloaa
open Go.RowKit
set_option linter.unusedVariables false
set_option linter.unusedSectionVars false
set_option linter.unusedSimpArgs false
theorem quo_le (n m e : Int) (h1 : 1 ≤ n) (h7 : n ≤ 7) (h2 : 1 ≤ m) (h4 : m ≤ 4) : 0 ≤ quo n m e ∧ quo n m e ≤ 112 := by
 have hmn : m * n ≤ 28 := Int.le_trans (Int.mul_le_mul_of_nonneg_right h4 (by omega)) (by omega)
 have hmn0 : 0 ≤ m * n := Int.mul_nonneg (by omega) (by omega)
 unfold quo
 split
 ·split <;> omega
 ·omega
/-- A space: where it lies (its blocks), and what it knows. -/
structure SpAt (w : World) (base g : Nat) (n m : Int) (l : List Ky) (U : Int → Int) (B : List Nat) : Prop where
 out : ∃ (mb : Nat) (ab : Option Addr) (c : Nat), Row w g (sxC n m (.slice ab l.length c) (.map (some mb))) 57 ∧ OwnS w base (.slice ab l.length c) l ∧ MapI w mb U ∧ base ≤ g ∧ base ≤ mb ∧ (Value.slice ab l.length c).ownBlock ≠ some g ∧ (Value.slice ab l.length c).ownBlock ≠ some mb ∧ B = g :: mb :: (Value.slice ab l.length c).ownBlock.toList
 par : (1 ≤ n ∧ n ≤ 7) ∧ 1 ≤ m ∧ m ≤ 4
 srt : Srt l
 us : ∀ e, 0 ≤ U e ∧ U e ≤ 200
section
variable {w w2 : World} {base g : Nat} {n m : Int} {l : List Ky} {U : Int → Int} {B : List Nat}
theorem own_blk {v : Value} (h : OwnS w base v l) {b : Nat} (hb : v.ownBlock = some b) : b < w.heap.size ∧ base ≤ b := by
 rcases h.2 with ⟨rfl, h0⟩ | ⟨g, cap, cur, rfl, hg, hr, _⟩
 ·cases hb
 ·have : g = b := Option.some.inj hb
  rw [← this]
  exact ⟨Row.lt hr, hg⟩
theorem SpAt.lt (h : SpAt w base g n m l U B) : ∀ b ∈ B, b < w.heap.size := by
 obtain ⟨mb, ab, c, r1, hO, hM, h1, h2, h3, h4, rfl⟩ := h.out
 intro b hb
 rcases List.mem_cons.1 hb with rfl | hb
 ·exact r1.lt
 ·rcases List.mem_cons.1 hb with rfl | hb
  ·exact hM.lt
  ·exact (own_blk hO (by simpa using hb)).1
theorem SpAt.lo (h : SpAt w base g n m l U B) : ∀ b ∈ B, base ≤ b := by
 obtain ⟨mb, ab, c, r1, hO, hM, h1, h2, h3, h4, rfl⟩ := h.out
 intro b hb
 rcases List.mem_cons.1 hb with rfl | hb
 ·exact h1
 ·rcases List.mem_cons.1 hb with rfl | hb
  ·exact h2
  ·exact (own_blk hO (by simpa using hb)).2
theorem SpAt.on {S : List Nat} (h : SpAt w base g n m l U B) (hk : Kept S w w2) (hS : ∀ b ∈ B, b ∉ S) : SpAt w2 base g n m l U B := by
 obtain ⟨mb, ab, c, r1, hO, hM, h1, h2, h3, h4, rfl⟩ := h.out
 exact ⟨⟨mb, ab, c, hk.row r1 (hS _ (by simp)), hO.on hk fun b hb => hS _ (by simp [hb]), hM.on hk (hS _ (by simp)), h1, h2, h3, h4, rfl⟩, h.par, h.srt, h.us⟩
theorem SpAt.below (h : SpAt w base g n m l U B) (hb : Below w.heap.size w w2) : SpAt w2 base g n m l U B := h.on (Kept.ofBelow hb) fun _ _ => by simp
theorem SpAt.belowAll (h : SpAt w base g n m l U B) (hb : Below w.heap.size w w2) : SpAt w2 base g n m l U B := h.below hb
theorem SpAt.glt (h : SpAt w base g n m l U B) : g < w.heap.size := by
 obtain ⟨mb, ab, c, r1, _⟩ := h.out
 exact r1.lt
theorem SpAt.mem (h : SpAt w base g n m l U B) : g ∈ B := by
 obtain ⟨mb, ab, c, r1, hO, hM, h1, h2, h3, h4, rfl⟩ := h.out
 simp
/-- Open. -/
theorem opn_any (h : SpAt w base g n m l U B) (hb : base ≤ w.heap.size) (x : Ky) (e : Int) (hl : l.length ≤ 1000) (hx : x.length ≤ 16777216) :
  Calls Try.prog 11 #[.pointer (some ⟨g, 0, none⟩), .string ⟨x.toArray⟩, .int .i64 e] w fun e' w' => ∃ B2, e' = .returned (.tuple #[.int .i64 (opP n m l (U e) x e : Nat), .bool (opF n m l (U e) x e), .int .i64 (opE n m l (U e) x e)]) ∧ SpAt w' base g n m (opK n m l (U e) x e) (opU n m l U x e) B2 ∧ Kept B w w' ∧ ∀ b ∈ B2, b ∈ B ∨ w.heap.size ≤ b := by
 obtain ⟨⟨h1n, h7n⟩, h1m, h4m⟩ := h.par
 have hq := quo_le n m e h1n h7n h1m h4m
 have hu := h.us e
 obtain ⟨mb, ab, c, r1, hO, hM, h1, h2, h3, h4, hB⟩ := h.out
 have hsame : ∀ w2, Below w.heap.size w w2 → opF n m l (U e) x e = false → SpAt w2 base g n m (opK n m l (U e) x e) (opU n m l U x e) B ∧ Kept B w w2 ∧ ∀ b ∈ B, b ∈ B ∨ w.heap.size ≤ b := fun w2 hb2 hf => by
  unfold opK opU
  rw [hf]
  exact ⟨h.below hb2, (Kept.ofBelow hb2).more (by simp), fun b hb => .inl hb⟩
 by_cases ha : endB n m e = true ∧ kyB x = true
 ·by_cases hm' : x ∈ l
  ·obtain ⟨e1, e2, e3⟩ := op_known (n := n) (m := m) (u := U e) ha.1 ha.2 hm'
   refine (open_known g n m mb ab c l U base x e w r1 hO hM h.srt hl h1n h7n (by omega) h4m ha.1 ha.2 hm').mono ?_
   rintro e' w' ⟨rfl, hb2⟩
   exact ⟨B, by rw [e1, e2, e3], hsame w' hb2 e2⟩
  ·by_cases hq2 : quo n m e ≤ U e
   ·obtain ⟨e1, e2, e3⟩ := op_quota ha.1 ha.2 hm' hq2
    refine (open_quota g n m mb ab c l U base x e w r1 hO hM h.srt hl h1n h7n (by omega) h4m ha.1 ha.2 hm' hq2).mono ?_
    rintro e' w' ⟨rfl, hb2⟩
    exact ⟨B, by rw [e1, e2, e3]; rfl, hsame w' hb2 e2⟩
   ·obtain ⟨e1, e2, e3⟩ := op_new ha.1 ha.2 hm' (by omega : U e < quo n m e)
    refine (open_new g n m mb ab c l U base x e w r1 hO hM h.srt hl h1n h7n (by omega) h4m ha.1 ha.2 hm' (by omega) hu.1 (by omega) hb h1 h2 h3 h4).mono ?_
    rintro e' w' ⟨kv, rfl, r2, hO2, hM2, hk, hp⟩
    have hkl : opK n m l (U e) x e = insK x l := by unfold opK; rw [e2]; rfl
    have hul : opU n m l U x e = fun k => if k = e then U e + 1 else U k := by
     unfold opU
     rw [if_pos e2]
     funext k
     split
     ·rename_i h9; rw [h9]
     ·rfl
    obtain ⟨ab2, c2, rfl⟩ := own_shape hO2
    have hg1 := r1.lt
    have hg2 := hM.lt
    refine ⟨g :: mb :: (Value.slice ab2 (insK x l).length c2).ownBlock.toList, by rw [e1, e2, e3], ⟨⟨mb, ab2, c2, by rw [hkl]; exact r2, by rw [hkl]; exact hO2, by rw [hul]; exact hM2, h1, h2, ?_, ?_, by rw [hkl]⟩, h.par, by rw [hkl]; exact insK_srt h.srt hm', fun k => ?_⟩, by rw [hB]; exact hk, fun b hb2 => ?_⟩
    ·rw [hkl]
     rcases hp with hp | ⟨b, hp, hp2⟩
     ·rw [hp]; exact h3
     ·rw [hp]; intro e9; have := Option.some.inj e9; omega
    ·rw [hkl]
     rcases hp with hp | ⟨b, hp, hp2⟩
     ·rw [hp]; exact h4
     ·rw [hp]; intro e9; have := Option.some.inj e9; omega
    ·rw [hul]
     have := h.us k
     dsimp only
     split <;> omega
    ·rw [hB]
     rcases List.mem_cons.1 hb2 with rfl | hb2
     ·exact .inl (by simp)
     ·rcases List.mem_cons.1 hb2 with rfl | hb2
      ·exact .inl (by simp)
      ·rcases hp with hp | ⟨b', hp, hp2⟩
       ·rw [hp] at hb2
        exact .inl (List.mem_cons_of_mem _ (List.mem_cons_of_mem _ hb2))
       ·rw [hp] at hb2
        have : b = b' := by simpa using hb2
        rw [this]
        exact .inr hp2
 ·obtain ⟨e1, e2, e3⟩ := op_arg (l := l) (u := U e) ha
  refine (open_arg g n m _ _ x e w r1 h1n h7n (by omega) h4m hx ha).mono ?_
  rintro e' w' ⟨rfl, hb2⟩
  exact ⟨B, by rw [e1, e2, e3]; rfl, hsame w' hb2 e2⟩
theorem opK_len {u : Int} {x : Ky} {e : Int} : (opK n m l u x e).length ≤ l.length + 1 := by
 unfold opK
 split
 ·rw [insK_len]; omega
 ·omega
theorem fnd_at (h : SpAt w base g n m l U B) (x : Ky) (hl : l.length ≤ 1000) :
  Calls Try.prog 12 #[.pointer (some ⟨g, 0, none⟩), .string ⟨x.toArray⟩] w fun e w' => e = .returned (.tuple #[.int .i64 (fdP l x : Nat), .bool (fdB l x)]) ∧ Below w.heap.size w w' := by
 obtain ⟨mb, ab, c, r1, hO, hM, h1, h2, h3, h4, hB⟩ := h.out
 obtain ⟨gb, bcs, hz⟩ : ∃ gb bcs, ElsAt 1 w ab l.length (stC l) gb 0 bcs 9 := by
  obtain ⟨a2, c2, gb, cur, h1, h2, h3⟩ := ownE_els (stC_size l) hO.e
  cases h1
  exact ⟨gb, cur, h3⟩
 exact find_any g n m _ ab c l gb 0 bcs _ x w r1 hz h.srt (by omega) h.par.1.1
theorem usd_at (h : SpAt w base g n m l U B) (e : Int) :
  Calls Try.prog 14 #[.pointer (some ⟨g, 0, none⟩), .int .i64 e] w fun e' w' => e' = .returned (.int .i64 (U e)) ∧ Below w.heap.size w w' := by
 obtain ⟨mb, ab, c, r1, hO, hM, h1, h2, h3, h4, hB⟩ := h.out
 exact used_any g n m _ mb U e w r1 hM h.par.1.1
theorem quo_at (h : SpAt w base g n m l U B) (e : Int) :
  Calls Try.prog 16 #[.pointer (some ⟨g, 0, none⟩), .int .i64 e] w fun e' w' => e' = .returned (.int .i64 (quo n m e)) ∧ Below w.heap.size w w' := by
 obtain ⟨mb, ab, c, r1, hO, hM, h1, h2, h3, h4, hB⟩ := h.out
 exact quo_any g n m _ _ e w r1 h.par.1.1 h.par.1.2 (by have := h.par.2.1; omega) h.par.2.2
/-- New. -/
theorem new_at (hb : base ≤ w.heap.size) (h1 : 1 ≤ n) (h7 : n ≤ 7) (h2 : 1 ≤ m) (h4 : m ≤ 4) :
  Calls Try.prog 9 #[.int .i64 n, .int .i64 m] w fun e w' => ∃ g B, e = .returned (.tuple #[.pointer (some ⟨g, 0, none⟩), .int .i64 0]) ∧ SpAt w' base g n m [] (fun _ => 0) B ∧ (∀ b ∈ B, w.heap.size ≤ b) ∧ Below w.heap.size w w' := by
 refine (snew_yes n m w h1 h7 h2 h4).mono ?_
 rintro e w' ⟨g, mb, rfl, hg, hm, r1, hM, hk⟩
 refine ⟨g, [g, mb], rfl, ⟨⟨mb, none, 0, r1, ⟨rfl, .inl ⟨rfl, rfl⟩⟩, hM, by omega, by omega, (fun e => by cases e), (fun e => by cases e), rfl⟩, ⟨⟨h1, h7⟩, h2, h4⟩, List.Pairwise.nil, fun _ => ⟨Int.le_refl _, by decide⟩⟩, ?_, hk⟩
 intro b hb
 simp at hb
 rcases hb with rfl | rfl <;> assumption
end
end Go.Proofs.Ytchiiphmpkmloaa
