/- The library's search in sorted keys, and its insertion, at this program. -/
import Derived.Test.YtchiiphmpkmloaaSpBase
import Derived.Shelf.Spec.SlicesInsertGrow
import Derived.Shelf.Spec.SearchS
namespace Go.Proofs.Ytchiiphmpkmloaa
open Go.RowKit
set_option linter.unusedVariables false
set_option linter.unusedSectionVars false
set_option linter.unusedSimpArgs false
def lay_ren : Go.Shelf.Ren := ⟨fun | 22 => 25 | 26 => 24 | 29 => 33 | 30 => 34 | 36 => 39 | 17 => 41 | 33 => 31 | 34 => 32 | 38 => 38 | n => n, fun | 9 => 9 | 0 => 0 | 3 => 3 | 4 => 4 | 24 => 30 | 40 => 68 | n => n, fun | n => n⟩
theorem lay22 : Go.Proofs.Lays2.n22 Try.prog lay_ren := {
 mixed := by kernel_rfl
 f17 := Try.func41.trans (congrArg some (by kernel_rfl))
 f22 := Try.func25.trans (congrArg some (by kernel_rfl))
 f29 := Try.func33.trans (congrArg some (by kernel_rfl))
 f30 := Try.func34.trans (congrArg some (by kernel_rfl))
 f36 := Try.func39.trans (congrArg some (by kernel_rfl))
 t0 := Try.underlying0
 a0 := Try.isAgg0
 z0 := Try.sizeOf0
 v0 := Try.zeroValue0
 t3 := Try.underlying3
 a3 := Try.isAgg3
 z3 := Try.sizeOf3
 v3 := Try.zeroValue3
 t4 := Try.underlying4
 a4 := Try.isAgg4
 z4 := Try.sizeOf4
 v4 := Try.zeroValue4
 t9 := Try.underlying9
 a9 := Try.isAgg9
 z9 := Try.sizeOf9
 v9 := Try.zeroValue9
 t24 := Try.underlying30
 a24 := Try.isAgg30
 z24 := Try.sizeOf30
 v24 := Try.zeroValue30
 i9 := by kernel_rfl }
theorem lay26 : Go.Proofs.Lays2.n26 Try.prog lay_ren := {
 mixed := by kernel_rfl
 f26 := Try.func24.trans (congrArg some (by kernel_rfl))
 f33 := Try.func31.trans (congrArg some (by kernel_rfl))
 f34 := Try.func32.trans (congrArg some (by kernel_rfl))
 f38 := Try.func38.trans (congrArg some (by kernel_rfl))
 t0 := Try.underlying0
 a0 := Try.isAgg0
 z0 := Try.sizeOf0
 v0 := Try.zeroValue0
 t3 := Try.underlying3
 a3 := Try.isAgg3
 z3 := Try.sizeOf3
 v3 := Try.zeroValue3
 t4 := Try.underlying4
 a4 := Try.isAgg4
 z4 := Try.sizeOf4
 v4 := Try.zeroValue4
 t9 := Try.underlying9
 a9 := Try.isAgg9
 z9 := Try.sizeOf9
 v9 := Try.zeroValue9
 t24 := Try.underlying30
 a24 := Try.isAgg30
 z24 := Try.sizeOf30
 v24 := Try.zeroValue30
 t40 := Try.underlying68
 a40 := Try.isAgg68
 z40 := Try.sizeOf68
 v40 := Try.zeroValue68 }
theorem below_dalloc (w : World) (o : Obj) : Below w.heap.size w (w.drew.alloc o) := ⟨rfl, rfl, rfl, (below_alloc (w := w.drew) o).size, fun b hb => (below_alloc (w := w.drew) o).block b hb⟩
theorem below_drewN (w : World) (q : Nat) : Below w.heap.size w (w.drewN q) := ⟨rfl, rfl, rfl, Nat.le_refl _, fun _ _ => rfl⟩
/-- The search: the key's place, and whether it is there. -/
theorem bs_any (ab : Option Addr) (c : Nat) (l : List Ky) (gb ob : Nat) (bcs : Array Value) (tb : TypeId) (x : Ky) (w : World) (hs : Srt l) (hl : l.length ≤ 1000000) (hz : ElsAt 1 w ab l.length (stC l) gb ob bcs tb) :
  Calls Try.prog 24 #[.slice ab l.length c, .string ⟨x.toArray⟩] w fun e w' => e = .returned (.tuple #[.int .i64 (rk x l : Nat), .bool (decide (x ∈ l))]) ∧ Below w.heap.size w w' := by
 rcases hz.at' with h0 | ⟨rfl, hR, hel⟩
 ·obtain rfl : l = [] := List.eq_nil_of_length_eq_zero h0
  refine (Any2.slices_BinarySearch_string_empty lay26 ab c ⟨x.toArray⟩ w).mono ?_
  rintro e w' ⟨rfl, rfl⟩
  exact ⟨rfl, Below.refl _ _⟩
 ·obtain ⟨S, hS⟩ : ∃ S : Nat → Ky, S = fun t => if t < l.length then l.getD t [] else x := ⟨_, rfl⟩
  have hcell : ∀ j, j < l.length → w.cell? ⟨gb, ob + j, none⟩ = some (.string ⟨(S j).toArray⟩) := fun j hj => by
   rw [hR.cell, hS]
   simp only [if_pos hj]
   have := hel j hj 0 _ rfl
   rw [Nat.mul_one, Nat.add_zero] at this
   exact this
  have hlt := rk_at (x := x) l hs
  have hle := rk_le x l
  have hsp : Lib.bsGo (fun t => Op.bytesLess (⟨(S t).toArray⟩ : ByteArray).toList (⟨x.toArray⟩ : ByteArray).toList) l.length 0 l.length = rk x l := by
   refine Lib.bsGo_spec _ (rk x l) (fun t ht => ?_) (fun t ht => ?_) _ _ _ (Nat.le_refl _) (Nat.zero_le _) hle
   ·show lb _ _ = true
    rw [toList_mk, toList_mk, hS]
    simp only [if_pos (show t < l.length by omega)]
    rw [hlt t (by omega)]
    exact decide_eq_true ht
   ·show lb _ _ = false
    rw [toList_mk, toList_mk, hS]
    by_cases htl : t < l.length
    ·simp only [if_pos htl]
     rw [hlt t htl]
     exact decide_eq_false (by omega)
    ·simp only [if_neg htl]
     exact lb_irr x
  have h := Any2.slices_BinarySearch_string lay26 gb ob l.length c (fun t => ⟨(S t).toArray⟩) ⟨x.toArray⟩ w (by omega) hcell
  rw [hsp] at h
  refine h.mono ?_
  rintro e w' ⟨rfl, q, rfl⟩
  refine ⟨?_, below_drewN w q⟩
  have e1 : decide (rk x l < l.length ∧ (⟨(S (rk x l)).toArray⟩ : ByteArray) = ⟨x.toArray⟩) = decide (x ∈ l) := by
   apply decide_eq_decide.2
   rw [rk_mem l hs]
   constructor
   ·rintro ⟨h1, h2⟩
    refine ⟨h1, ?_⟩
    have h3 : (S (rk x l)).toArray = x.toArray := ByteArray.mk.inj h2
    have h4 : S (rk x l) = x := by simpa using h3
    rw [hS] at h4
    simp only [if_pos h1] at h4
    exact h4
   ·rintro ⟨h1, h2⟩
    refine ⟨h1, ?_⟩
    rw [hS]
    simp only [if_pos h1]
    rw [h2]
  rw [e1]
/-- Keys as values. -/
def strV (x : Ky) : Value := .string ⟨x.toArray⟩
theorem esC_st (l : List Ky) (n : Nat) (hn : n = l.length) : (esC 1 n (stC l)).toList = l.map strV := by
 subst hn
 apply List.ext_getElem?
 intro i
 rw [Array.getElem?_toList, List.getElem?_map]
 by_cases hi : i < l.length
 ·have := esC_get (C := stC l) (k := 1) (fun _ => rfl) i 0 hi (by omega)
  rw [Nat.mul_one, Nat.add_zero] at this
  rw [this, List.getElem?_eq_getElem hi]
  simp [stC, strV, hi]
 ·rw [Array.getElem?_eq_none (by rw [esC_size]; omega), List.getElem?_eq_none (by omega)]
  rfl
theorem strs_one (l : List Ky) : ∀ v ∈ l.map strV, v.oneCell' = true := by
 intro v hv
 obtain ⟨x, _, rfl⟩ := List.mem_map.1 hv
 rfl
theorem ins_at (l : List Ky) (x : Ky) (i j : Nat) (hi : i ≤ l.length) : (l.take i ++ x :: l.drop i)[j]? = if j < i then l[j]? else if j = i then some x else l[j - 1]? := by
 have h1 : (l.take i).length = i := by rw [List.length_take]; omega
 by_cases h : j < i
 ·rw [if_pos h, List.getElem?_append_left (by omega), List.getElem?_take, if_pos h]
 ·rw [if_neg h, List.getElem?_append_right (by omega), h1]
  by_cases e : j = i
  ·rw [if_pos e, e, Nat.sub_self]; rfl
  ·rw [if_neg e, show j - i = (j - i - 1) + 1 by omega, List.getElem?_cons_succ, List.getElem?_drop]
   congr 1
   omega
/-- Own keys. -/
def OwnS (w : World) (base : Nat) (v : Value) (l : List Ky) : Prop := w.ownsRow base 9 1 v l.length (l.map strV)
theorem OwnS.e {w : World} {base : Nat} {v : Value} {l : List Ky} (h : OwnS w base v l) : OwnE 1 9 w base v l.length (stC l) := by
 unfold OwnE
 rw [esC_st l _ rfl]
 exact h
theorem OwnS.of {w : World} {base n : Nat} {v : Value} {l : List Ky} (h : OwnE 1 9 w base v n (stC l)) (hn : n = l.length) : OwnS w base v l := by
 subst hn
 unfold OwnE at h
 rw [esC_st l _ rfl] at h
 exact h
theorem ownS_made {w : World} {base g cap : Nat} {cur : Array Value} {l : List Ky} (r : Row w g cur 9) (hb : base ≤ g) (hc : l.length ≤ cap) (hm : cap ≤ maxLen) (hs : cur.size = cap) (ht : cur.toList.take l.length = l.map strV) :
  OwnS w base (.slice (some ⟨g, 0, none⟩) l.length cap) l :=
 ⟨by rw [List.length_map, Nat.mul_one], .inr ⟨g, cap, cur, rfl, hb, r, hc, hm, by omega, by rw [Nat.mul_one]; exact ht⟩⟩
theorem cells_str1 : (Value.string ⟨#[]⟩).cells = #[Value.string ⟨#[]⟩] := rfl
theorem zeros_size (k : Nat) : (Builtin.zeroCells (Value.string ⟨#[]⟩).cells k).size = k := by
 unfold Builtin.zeroCells
 simp [cells_str1]
/-- The insertion of one key at its place. -/
theorem ins_any (base : Nat) (v : Value) (l : List Ky) (x : Ky) (gx c : Nat) (w : World) (hO : OwnS w base v l) (hl : l.length ≤ 1000000) (hb : base ≤ w.heap.size) (rx : Row w gx #[strV x] 9) (hx : v.ownBlock ≠ some gx) :
  Calls Try.prog 25 #[v, .int .i64 (rk x l : Nat), .slice (some ⟨gx, 0, none⟩) 1 c] w fun e w' => ∃ v', e = .returned v' ∧ OwnS w' base v' (insK x l) ∧ Kept v.ownBlock.toList w w' ∧ (v'.ownBlock = v.ownBlock ∨ v'.ownBlock = some w.heap.size) := by
 obtain ⟨i, hi⟩ : ∃ i, rk x l = i := ⟨_, rfl⟩
 have hil : i ≤ l.length := by rw [← hi]; exact rk_le x l
 have hK : insK x l = l.take i ++ x :: l.drop i := by unfold insK; rw [hi]
 have hlen : (insK x l).length = l.length + 1 := insK_len x l
 have hat : ∀ j, (insK x l)[j]? = if j < i then l[j]? else if j = i then some x else l[j - 1]? := fun j => by rw [hK]; exact ins_at l x i j hil
 rw [hi]
 have h63 : l.length + 1 ≤ maxLen := by unfold maxLen; omega
 have hvs : ∀ j u, [strV x][j]? = some u → w.cell? ⟨gx, 0 + j, none⟩ = some u := fun j u hj => by
  rw [rx.cell, Nat.zero_add, ← Array.getElem?_toList]
  exact hj
 have h1v : ∀ u ∈ [strV x], u.oneCell' = true := fun u hu => by rw [List.mem_singleton.1 hu]; rfl
 have hmk : ∀ (g cap : Nat) (cur : Array Value) (w' : World), Row w' g cur 9 → base ≤ g → l.length + 1 ≤ cap → cap ≤ maxLen → cur.size = cap → (∀ j, j < l.length + 1 → cur[j]? = ((insK x l)[j]?).map strV) → OwnS w' base (.slice (some ⟨g, 0, none⟩) (l.length + 1) cap) (insK x l) := fun g cap cur w' r h1 h2 h3 h4 h5 => by
  rw [← hlen] at h2 h5 ⊢
  refine ownS_made r h1 h2 h3 h4 ?_
  apply List.ext_getElem?
  intro j
  rw [List.getElem?_take, List.getElem?_map]
  by_cases hj : j < (insK x l).length
  ·rw [if_pos hj, Array.getElem?_toList, h5 j hj]
  ·rw [if_neg hj, List.getElem?_eq_none (by omega)]; rfl
 rcases hO.2 with ⟨rfl, h0⟩ | ⟨g, cap, cur, rfl, hg, hr, hnc, hcm, hcs, htk⟩
 ·obtain rfl : l = [] := List.eq_nil_of_length_eq_zero h0
  obtain rfl : i = 0 := by simpa using hil
  have h := Any2.slices_Insert_string_end_grow (P := Try.prog) lay22 none 0 0 gx 0 1 c [] [strV x] w (by omega) (Nat.le_refl _) (by omega) (by omega) rfl rfl (fun _ => rfl) (fun a e => by cases e) hvs h1v
  refine h.mono ?_
  rintro e w' ⟨rfl, rfl⟩
  refine ⟨_, rfl, hmk _ _ _ _ (Row.new _ _ _) hb (grownCap_ge _ _ _ _) (grownCap_le_maxLen _ _ _ _ h63) ?_ ?_, Kept.ofBelow (below_dalloc w _), .inr rfl⟩
  ·have := grownCap_ge w (0 + 1) 0 9
   rw [Array.size_append, zeros_size]
   simp
   show 1 + (grownCap w 1 0 9 - 1) = grownCap w 1 0 9
   have h2 : 1 ≤ grownCap w 1 0 9 := this
   omega
  ·intro j hj
   obtain rfl : j = 0 := by simpa using hj
   rw [hat, Array.getElem?_append_left (by simp)]
   rfl
 ·rw [Nat.mul_one] at hcs htk
  have hR : Row w g cur 9 := hr
  have hgw := hR.lt
  have hne : gx ≠ g := fun e => hx (by rw [e]; rfl)
  have hcur : ∀ j, j < l.length → cur[j]? = (l[j]?).map strV := fun j hj => by
   have := congrArg (fun q => q[j]?) htk
   simp only [List.getElem?_take, if_pos hj, List.getElem?_map, Array.getElem?_toList] at this
   exact this
  have hcl : ∀ j u, (l.map strV)[j]? = some u → w.cell? ⟨g, 0 + j, none⟩ = some u := fun j u hj => by
   have hjl : j < l.length := by simpa using (List.getElem?_eq_some_iff.1 hj).1
   rw [hR.cell, Nat.zero_add, hcur j hjl, ← List.getElem?_map]
   exact hj
  have hkg : ∀ w2, Kept [g] w w2 → Kept (Value.slice (some ⟨g, 0, none⟩) l.length cap).ownBlock.toList w w2 := fun _ h => h
  by_cases hroom : l.length + 1 ≤ cap
  ·by_cases hie : i = l.length
   ·subst hie
    have h := Any2.slices_Insert_string_end_room (P := Try.prog) lay22 g 0 l.length cap gx 0 1 c [strV x] w (by omega) hroom (by unfold maxLen at hcm; omega) rfl
     (fun j hj => by rw [hR.cell, Nat.zero_add, Array.getElem?_eq_getElem (by omega)]; rfl) (fun j _ => hR.frozen _) hvs h1v
    refine h.mono ?_
    rintro e w' ⟨rfl, rfl⟩
    refine ⟨_, rfl, hmk _ _ _ _ (hR.setCells _ _) hg hroom hcm (by rw [putL_size]; exact hcs) ?_, hkg _ (kept_only (only_setCells _ _ _ _)), .inl rfl⟩
    intro j hj
    rw [putL_get _ _ _ _ (by simp; omega), hat]
    by_cases e1 : j < l.length
    ·rw [if_neg (by simp; omega), if_pos e1, hcur j e1]
    ·obtain rfl : j = l.length := by omega
     rw [if_pos (by simp), if_neg e1, if_pos rfl]
     simp
   ·have hilt : i < l.length := by omega
    have h := Any2.slices_Insert_string_shift (P := Try.prog) lay22 g 0 l.length cap i gx 0 1 c (l.map strV) [strV x] w hilt (by omega) hroom (by unfold maxLen at hcm; omega) hne (by simp) rfl hcl
     (fun j hj => by rw [hR.cell, Nat.zero_add, Array.getElem?_eq_getElem (by omega)]; rfl) (fun j _ => hR.frozen _) hvs (strs_one l) h1v 9 9 1 cur.size
     (by unfold World.shape?; rw [rx]; rfl) (by unfold World.shape?; rw [hR]) (by omega) (rx.frozen _) (rx.frozen _)
    refine h.mono ?_
    rintro e w' ⟨rfl, rfl⟩
    have hR2 : Row w.drew g cur 9 := hR
    have hk1 : Kept [g] w w.drew := ⟨rfl, rfl, rfl, Nat.le_refl _, fun _ _ _ => rfl⟩
    refine ⟨_, rfl, hmk _ _ _ _ ((hR2.setCells _ _).setCells _ _) hg hroom hcm (by rw [putL_size, putL_size]; exact hcs) ?_, hkg _ ((hk1.trans (kept_only (only_setCells _ _ _ _)) (by simp)).trans (kept_only (only_setCells _ _ _ _)) (by simp)), .inl rfl⟩
    intro j hj
    have hdl : ((l.map strV).drop i).length = l.length - i := by rw [List.length_drop, List.length_map]
    rw [putL_get _ _ _ _ (by rw [putL_size]; simp; omega), hat]
    by_cases e1 : j < i
    ·rw [if_neg (by simp; omega), putL_get _ _ _ _ (by rw [hdl]; omega), if_neg (by omega), if_pos e1, hcur j (by omega)]
    ·by_cases e2 : j = i
     ·subst e2
      rw [if_pos (by simp), if_neg e1, if_pos rfl]
      simp
     ·rw [if_neg (by simp; omega), putL_get _ _ _ _ (by rw [hdl]; omega), if_pos (by rw [hdl]; omega), if_neg e1, if_neg e2, List.getElem?_drop, List.getElem?_map]
      congr 2
      omega
  ·have hcap : cap = l.length := by omega
   subst hcap
   by_cases hie : i = l.length
   ·subst hie
    have h := Any2.slices_Insert_string_end_grow (P := Try.prog) lay22 (some ⟨g, 0, none⟩) l.length l.length gx 0 1 c (l.map strV) [strV x] w (by omega) (Nat.le_refl _) (by omega) (by omega) (by simp) rfl (fun e => by cases e) (fun a e j u hj => by
     cases e
     rw [Addr.add_mid]
     exact hcl j u hj) hvs h1v
    refine h.mono ?_
    rintro e w' ⟨rfl, rfl⟩
    have hge := grownCap_ge w (l.length + 1) l.length 9
    refine ⟨_, rfl, hmk _ _ _ _ (Row.new _ _ _) hb hge (grownCap_le_maxLen _ _ _ _ h63) ?_ ?_, ⟨rfl, rfl, rfl, (below_dalloc w _).size, fun b hb2 _ => (below_dalloc w _).block b hb2⟩, .inr rfl⟩
    ·rw [Array.size_append, zeros_size]
     simp
     exact Nat.add_sub_cancel' hge
    ·intro j hj
     rw [Array.getElem?_append_left (by simp; omega), List.getElem?_toArray, hat]
     by_cases e1 : j < l.length
     ·rw [List.getElem?_append_left (by simp; omega), if_pos e1, List.getElem?_map]
     ·obtain rfl : j = l.length := by omega
      rw [List.getElem?_append_right (by simp), if_neg e1, if_pos rfl]
      simp
   ·have hilt : i < l.length := by omega
    have h := Any2.slices_Insert_string_grow (P := Try.prog) lay22 g 0 l.length l.length i gx 0 1 c (l.map strV) [strV x] w hilt (by omega) (Nat.le_refl _) (by omega) (by omega) (by simp) rfl hcl hvs (strs_one l) h1v
    refine h.mono ?_
    rintro e w' ⟨rfl, rfl⟩
    have hge := grownCap_ge w (l.length + 1) l.length 9
    obtain ⟨G, hG⟩ : ∃ G, grownCap w (l.length + 1) l.length (lay_ren.t 9) = G := ⟨_, rfl⟩
    have hG2 : grownCap w (l.length + 1) l.length 9 = G := hG
    have hGm := grownCap_le_maxLen w (l.length + 1) l.length 9 h63
    rw [hG2] at hge hGm
    rw [hG]
    obtain ⟨R0, hR0⟩ : ∃ R0, ((l.map strV).take i).toArray ++ Builtin.zeroCells (Value.string ⟨#[]⟩).cells (l.length + 1 - i) ++ Builtin.zeroCells (Value.string ⟨#[]⟩).cells (G - (l.length + 1)) = R0 := ⟨_, rfl⟩
    have hR0s : R0.size = G := by
     rw [← hR0, Array.size_append, Array.size_append, zeros_size, zeros_size]
     simp
     omega
    have hR0l : ∀ j, j < i → R0[j]? = (l[j]?).map strV := fun j hj => by
     rw [← hR0, Array.getElem?_append_left (by rw [Array.size_append, zeros_size]; simp; omega), Array.getElem?_append_left (by simp; omega), List.getElem?_toArray, List.getElem?_take, if_pos hj, List.getElem?_map]
    rw [hR0]
    have rN : Row (w.alloc (.cells R0 (lay_ren.t 9))).drew w.heap.size R0 9 := Row.new w R0 _
    have hk0 : Kept [w.heap.size] w (w.alloc (.cells R0 (lay_ren.t 9))).drew := ⟨rfl, rfl, rfl, (below_alloc (w := w) (.cells R0 (lay_ren.t 9))).size, fun b hb _ => (below_alloc (w := w) (.cells R0 (lay_ren.t 9))).block b hb⟩
    have hk1 := hk0.trans (kept_only (only_setCells w.heap.size [strV x] (w.alloc (.cells R0 (lay_ren.t 9))).drew i)) (by simp)
    have hk2 : Kept [w.heap.size] w (((w.alloc (.cells R0 (lay_ren.t 9))).drew.setCells w.heap.size i [strV x]).drew) := ⟨hk1.os, hk1.tape, hk1.output, hk1.size, hk1.block⟩
    have hk3 := hk2.trans (kept_only (only_setCells w.heap.size ((l.map strV).drop i) (((w.alloc (.cells R0 (lay_ren.t 9))).drew.setCells w.heap.size i [strV x]).drew) (i + 1))) (by simp)
    have rN2 : Row (((w.alloc (.cells R0 (lay_ren.t 9))).drew.setCells w.heap.size i [strV x]).drew) w.heap.size (putL R0 i [strV x]) 9 := rN.setCells _ _
    refine ⟨_, rfl, hmk _ _ _ _ (rN2.setCells _ _) hb hge hGm (by rw [putL_size, putL_size]; exact hR0s) ?_, ?_, .inr rfl⟩
    ·intro j hj
     have hdl : ((l.map strV).drop i).length = l.length - i := by rw [List.length_drop, List.length_map]
     rw [putL_get _ _ _ _ (by rw [putL_size, hdl]; omega), hat]
     by_cases e1 : j < i
     ·rw [if_neg (by omega), putL_get _ _ _ _ (by simp; omega), if_neg (by omega), if_pos e1, hR0l j e1]
     ·by_cases e2 : j = i
      ·subst e2
       rw [if_neg (by omega), putL_get _ _ _ _ (by simp; omega), if_pos (by simp), if_neg e1, if_pos rfl]
       simp
      ·rw [if_pos (by rw [hdl]; omega), if_neg e1, if_neg e2, List.getElem?_drop, List.getElem?_map]
       congr 2
       omega
    ·exact ⟨hk3.os, hk3.tape, hk3.output, hk3.size, fun b hb2 hn => hk3.block b hb2 (by simp; omega)⟩
end Go.Proofs.Ytchiiphmpkmloaa
