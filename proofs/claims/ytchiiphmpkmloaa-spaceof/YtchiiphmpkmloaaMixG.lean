/- Mix's walk with guards: a region that draws its order, some of whose operations are left out. -/
import Derived.Test.YtchiiphmpkmloaaMixMore
namespace Go.Proofs.Ytchiiphmpkmloaa
open Go.RowKit
section
variable {P : Program}
/-- An operation that is left out. -/
def skipS : Sp := (fun _ => undef, [], none, [])
def ObG (P : Program) (ops : Array Oper) (olds : Olds) (p : Nat → Nat) (W : World) (n : Nat) (ct : Ct) (o : Oper) (a : Act) (s : Sp) : Prop :=
 (Region.wanted o (yielded ops a.tmps) = true ∧ Ob P olds p W n ct o a s) ∨ (Region.wanted o (yielded ops a.tmps) = false ∧ s = skipS)
theorem ObG.loc {ops : Array Oper} {olds : Olds} {p : Nat → Nat} {W : World} {n : Nat} {ct : Ct} {o : Oper} {a : Act} {s : Sp} (h : ObG P ops olds p W n ct o a s) : Loc n s := by
 rcases h with ⟨_, h⟩ | ⟨_, rfl⟩
 ·exact h.1
 ·exact .inl ⟨undef, rfl⟩
def ObsG (P : Program) (ops : Array Oper) (olds : Olds) (p : Nat → Nat) (W : World) (F : Act → Ct → Prop) : Nat → List Oper → List Sp → Act → Ct → Prop
 | _, [], [], a, ct => F a ct
 | n, o :: l, s :: pl, a, ct => ObG P ops olds p W n ct o a s ∧ ObsG P ops olds p W F (n + 1) l pl (a.put o.dst (spV p s)) (spC n s ct)
 | _, _, _, _, _ => False
theorem obsG_len {ops : Array Oper} {olds : Olds} {p : Nat → Nat} {W : World} {F : Act → Ct → Prop} : ∀ (l : List Oper) (pl : List Sp) (n : Nat) (a : Act) (ct : Ct), ObsG P ops olds p W F n l pl a ct → l.length = pl.length
 | [], [], _, _, _, _ => rfl
 | _ :: l, _ :: pl, _, _, _, h => by simp [obsG_len l pl _ _ _ h.2]
 | [], _ :: _, _, _, _, h => h.elim
 | _ :: _, [], _, _, _, h => h.elim
theorem obsG_at {ops : Array Oper} {olds : Olds} {p : Nat → Nat} {W : World} {F : Act → Ct → Prop} : ∀ (l : List Oper) (pl : List Sp) (n i : Nat) (a : Act) (ct : Ct) (x : Oper × Sp), ObsG P ops olds p W F n l pl a ct → (l.zip pl)[i]? = some x →
  ObG P ops olds p W (n + i) (ctD (fun j => decide (j < n + i)) n (l.zip pl) ct) x.1 (actD p (fun j => decide (j < n + i)) n (l.zip pl) a) x.2
 | [], [], _, _, _, _, _, _, h => by simp at h
 | o :: l, s :: pl, n, 0, a, ct, x, h, hx => by
  obtain rfl : (o, s) = x := by simpa using hx
  rw [actD_none _ _ _ (fun j hj => by simp; omega), ctD_none _ _ _ (fun j hj => by simp; omega)]
  exact h.1
 | o :: l, s :: pl, n, i + 1, a, ct, x, h, hx => by
  have := obsG_at l pl (n + 1) i _ _ x h.2 (by simpa using hx)
  rw [show n + 1 + i = n + (i + 1) by omega] at this
  rw [List.zip_cons_cons]
  unfold ctD actD
  rw [if_pos (by simp), if_pos (by simp)]
  exact this
 | [], _ :: _, _, _, _, _, _, h, _ => h.elim
 | _ :: _, [], _, _, _, _, _, h, _ => h.elim
theorem obsG_end {ops : Array Oper} {olds : Olds} {p : Nat → Nat} {W : World} {F : Act → Ct → Prop} {d : Nat → Bool} : ∀ (l : List Oper) (pl : List Sp) (n : Nat) (a : Act) (ct : Ct), ObsG P ops olds p W F n l pl a ct → (∀ j, n ≤ j → j < n + l.length → d j = true) →
  F (actD p d n (l.zip pl) a) (ctD d n (l.zip pl) ct)
 | [], [], _, _, _, h, _ => h
 | o :: l, s :: pl, n, a, ct, h, hd => by
  rw [List.zip_cons_cons]
  unfold ctD actD
  have h0 := hd n (Nat.le_refl _) (by simp)
  rw [if_pos h0, if_pos h0]
  exact obsG_end l pl (n + 1) _ _ h.2 fun j h1 h2 => hd j (by omega) (by simp; omega)
 | [], _ :: _, _, _, _, h, _ => h.elim
 | _ :: _, [], _, _, _, h, _ => h.elim
/-- The walk in the text's order, behind a name that is not opened. -/
structure MG (P : Program) (ops : Array Oper) (olds : Olds) (p : Nat → Nat) (W : World) (F : Act → Ct → Prop) (n : Nat) (l : List Oper) (pl : List Sp) (a : Act) (ct : Ct) : Prop where
 out : ObsG P ops olds p W F n l pl a ct
theorem actD_size {p : Nat → Nat} {d : Nat → Bool} : ∀ (l : List (Oper × Sp)) (n : Nat) (a : Act), (actD p d n l a).tmps.size = a.tmps.size
 | [], _, _ => rfl
 | x :: l, n, a => by
  unfold actD
  rw [actD_size l (n + 1)]
  split
  ·exact put_size _ _ _
  ·rfl
theorem wanted_same {ops : Array Oper} (o : Oper) {a a' : Act} (hz : a.tmps.size = a'.tmps.size) (h : ∀ g want, o.guard = some (g, want) → ∀ t, (ops[g]?).bind (·.dst) = some t → a.eval (.tmp t) = a'.eval (.tmp t)) :
  Region.wanted o (yielded ops a.tmps) = Region.wanted o (yielded ops a'.tmps) := by
 unfold Region.wanted
 cases hg : o.guard with
 | none => rfl
 | some gw =>
  obtain ⟨g, want⟩ := gw
  have hy : yielded ops a.tmps g = yielded ops a'.tmps g := by
   unfold yielded
   cases ht : (ops[g]?).bind (·.dst) with
   | none => rfl
   | some t =>
    have e := h g want hg t ht
    have e2 : a.tmps[t]? = a'.tmps[t]? := by
     by_cases hlt : t < a.tmps.size
     ·have hlt' : t < a'.tmps.size := hz ▸ hlt
      simp only [Act.eval, Array.getD, hlt, hlt', dite_true] at e
      rw [Array.getElem?_eq_getElem hlt, Array.getElem?_eq_getElem hlt']
      exact congrArg some e
     ·rw [Array.getElem?_eq_none (Nat.le_of_not_lt hlt), Array.getElem?_eq_none (Nat.le_of_not_lt (hz ▸ hlt))]
    simp only [Option.bind_some, e2]
  simp only [hy]
def chkPairG (ops : Array Oper) (l : List (Oper × Sp)) (x : Oper × Sp) (i : Nat) (y : Oper × Sp) (j : Nat) : Bool :=
 j == i || ((match y.1.dst with
  | none => true
  | some s => x.1.dst != some s && (!(x.1.looksAt ops).contains s || ((decide (j < i) && reach l l.length i j) || (decide (i < j) && reach l l.length j i)))) &&
 (hits j y.2).all fun k => !(keysOf x.2).contains k || (if j < i then reach l l.length i j else reach l l.length j i))
def chkG (ops : Array Oper) (l : List (Oper × Sp)) : Bool :=
 l.zipIdx.all fun z => (match z.1.1.op with | .select _ _ => false | _ => true) && (z.1.1.after.all fun e => !Region.binds .any e || decide (e.on < z.2)) && ((keysOf z.1.2).all fun k => k % 2 == 0 || decide (k / 2 < z.2)) &&
  l.zipIdx.all fun u => chkPairG ops l z.1 z.2 u.1 u.2
theorem wp_region_mixg {id : Nat} {l : List Oper} {a : Act} {W : World} {Q : Exit → Act → World → Prop} (hm : P.follows .mixedOrders = true) (olds : Olds) (plan : List Sp) (hr : RowsOf W olds) (hn : (olds.map (·.1)).Nodup)
  (h : ∀ p, MG P l.toArray olds p W (FinF olds p W Q) 0 l plan a (ct0 olds)) (hchk : chkG l.toArray (l.zip plan) = true) : (Code.region id l.toArray true).wp P Q a W := by
 have hlen : l.length = plan.length := obsG_len l plan _ _ _ (h fun _ => 0).out
 have hobs : ∀ p i x, (l.zip plan)[i]? = some x → ObG P l.toArray olds p W i (ctD (fun j => decide (j < i)) 0 (l.zip plan) (ct0 olds)) x.1 (actD p (fun j => decide (j < i)) 0 (l.zip plan) a) x.2 := fun p i x hx => by
  have := obsG_at l plan 0 i a (ct0 olds) x (h p).out hx
  rw [Nat.zero_add] at this
  exact this
 have hend : ∀ p (d : Nat → Bool), (∀ j, j < l.length → d j = true) → FinF olds p W Q (actD p d 0 (l.zip plan) a) (ctD d 0 (l.zip plan) (ct0 olds)) := fun p d hd =>
  obsG_end l plan 0 a (ct0 olds) (h p).out fun j _ hj => hd j (by omega)
 have hzip : ∀ i o, l[i]? = some o → ∃ s, (l.zip plan)[i]? = some (o, s) := fun i o ho => by
  have hi : i < l.length := (List.getElem?_eq_some_iff.1 ho).1
  refine ⟨plan[i]'(by omega), ?_⟩
  rw [List.getElem?_zip_eq_some]
  exact ⟨ho, by simp⟩
 generalize l.zip plan = z at *
 clear h
 have hC : ∀ i x, z[i]? = some x → (∀ cs b, x.1.op ≠ .select cs b) ∧ (∀ e ∈ x.1.after, Region.binds .any e = true → e.on < i) ∧ (∀ k ∈ keysOf x.2, k % 2 = 0 ∨ k / 2 < i) ∧ ∀ j y, z[j]? = some y → chkPairG l.toArray z x i y j = true := by
  intro i x hx
  have h1 : (x, i) ∈ z.zipIdx := by rw [List.mem_zipIdx_iff_getElem?]; exact hx
  have h2 := List.all_eq_true.1 hchk _ h1
  simp only [Bool.and_eq_true] at h2
  obtain ⟨⟨⟨a1, a3⟩, a4⟩, a5⟩ := h2
  refine ⟨fun cs b e => (by rw [e] at a1; cases a1), fun e he hb => ?_, fun k hk => ?_, fun j y hy => ?_⟩
  ·have := Array.all_eq_true_iff_forall_mem.1 a3 e he
   rw [hb] at this
   simpa using this
  ·have := List.all_eq_true.1 a4 k hk
   simpa using this
  ·have h3 : (y, j) ∈ z.zipIdx := by rw [List.mem_zipIdx_iff_getElem?]; exact hy
   exact List.all_eq_true.1 a5 _ h3
 have hP : ∀ i x, z[i]? = some x → ∀ j y, z[j]? = some y → j ≠ i →
   (∀ s, y.1.dst = some s → x.1.dst ≠ some s ∧ (s ∈ x.1.looksAt l.toArray → (j < i ∧ reach z z.length i j = true) ∨ (i < j ∧ reach z z.length j i = true))) ∧
   (∀ k, k ∈ hits j y.2 → k ∈ keysOf x.2 → (j < i → reach z z.length i j = true) ∧ (i < j → reach z z.length j i = true)) := by
  intro i x hx j y hy hne
  have h1 := (hC i x hx).2.2.2 j y hy
  unfold chkPairG at h1
  rw [show (j == i) = false by simpa using hne, Bool.false_or, Bool.and_eq_true] at h1
  refine ⟨fun s hs => ?_, fun k hk hmem => ?_⟩
  ·have h2 := h1.1
   rw [hs] at h2
   simp only [Bool.and_eq_true, Bool.or_eq_true, bne_iff_ne, ne_eq, Bool.not_eq_true', decide_eq_true_eq] at h2
   refine ⟨h2.1, fun hl => ?_⟩
   rcases h2.2 with h3 | h3
   ·rw [List.contains_iff_mem.2 hl] at h3; cases h3
   ·exact h3
  ·have h2 := List.all_eq_true.1 h1.2 k hk
   simp only [Bool.or_eq_true, Bool.not_eq_true'] at h2
   rcases h2 with h3 | h3
   ·rw [List.contains_iff_mem.2 hmem] at h3; cases h3
   ·refine ⟨fun hj => ?_, fun hj => ?_⟩
    ·rw [if_pos hj] at h3; exact h3
    ·rw [if_neg (by omega)] at h3; exact h3
 refine wp_region_inv hm (fun d a' w' => ∃ p, a' = actD p d 0 z a ∧ St olds p W w' (ctD d 0 z (ct0 olds)) ∧
  (∀ i x, z[i]? = some x → d i = true → ∀ e ∈ x.1.after, Region.binds .any e = true → d e.on = true)) ?lex ?start ?step ?fin
 case lex =>
  rw [List.all_eq_true]
  intro x hx
  obtain ⟨s, hs⟩ := hzip x.2 x.1 (List.mem_zipIdx_iff_getElem?.1 hx)
  obtain ⟨_, h3, _⟩ := hC _ _ hs
  rw [Array.all_eq_true_iff_forall_mem]
  intro e he
  cases hb : Region.binds .any e
  ·rfl
  ·simpa using h3 e he hb
 case start =>
  refine ⟨fun _ => 0, (actD_none _ _ _ fun _ _ => rfl).symm, ?_, fun i x _ hd => by cases hd⟩
  rw [ctD_none _ _ _ (fun _ _ => rfl)]
  exact st_first hr ⟨rfl, rfl, rfl, Nat.le_refl _, fun _ _ _ => rfl⟩ rfl
 case fin =>
  rintro d a' w' ⟨p, rfl, hs, _⟩ hd
  exact hend p d hd w' hs.kept hs.row hs.new hs.apart
 case step =>
  rintro i o ho d a' w' ⟨p, rfl, hst, hcl⟩ hd hpre
  obtain ⟨s, hx⟩ := hzip i o ho
  obtain ⟨hsel, _, hkeys, _⟩ := hC i _ hx
  have hwait : ∀ j, reach z z.length i j = true → d j = true := fun j hj => reach_pre hcl _ i j _ hx hpre hj
  have hlater : ∀ j y, z[j]? = some y → reach z z.length j i = true → d j = false := fun j y hy hj => by
   cases hdj : d j
   ·rfl
   ·rw [reach_pre hcl _ j i y hy (hcl j y hy hdj) hj] at hd; cases hd
  have EV : ∀ t, t ∈ o.looksAt l.toArray → (actD p d 0 z a).eval (.tmp t) = (actD p (fun j => decide (j < i)) 0 z a).eval (.tmp t) := fun t hl => by
   refine actD_eval z 0 a a (fun j x' hj hdst => ?_) rfl rfl
   rw [Nat.zero_add]
   by_cases hji : j = i
   ·subst hji; rw [hd]; simp
   ·rcases ((hP i _ hx j x' hj hji).1 t hdst).2 hl with ⟨h1, h2⟩ | ⟨h1, h2⟩
    ·rw [hwait j h2]; simp [h1]
    ·rw [hlater j x' hj h2]; simp; omega
  have E : execOp (actD p d 0 z a).eval o = execOp (actD p (fun j => decide (j < i)) 0 z a).eval o := by
   refine execOp_congr o hsel fun y hy => ?_
   cases y with
   | tmp t => exact EV t (List.mem_append_left _ (List.mem_filterMap.2 ⟨.tmp t, by simpa using hy, rfl⟩))
   | _ => rfl
  have WW : Region.wanted o (yielded l.toArray (actD p d 0 z a).tmps) = Region.wanted o (yielded l.toArray (actD p (fun j => decide (j < i)) 0 z a).tmps) := by
   refine wanted_same o (by rw [actD_size, actD_size]) fun g want hg t ht => EV t ?_
   unfold Oper.looksAt
   rw [hg]
   refine List.mem_append_right _ ?_
   show t ∈ ((l.toArray[g]?).bind (·.dst)).toList
   rw [ht]
   exact List.mem_singleton.2 rfl
  have CT : ∀ k ∈ keysOf s, ctD d 0 z (ct0 olds) k = ctD (fun j => decide (j < i)) 0 z (ct0 olds) k := fun k hk' => by
   refine ctD_agree z 0 _ _ (fun j y hj hh => ?_) rfl
   rw [Nat.zero_add] at hh ⊢
   by_cases hji : j = i
   ·subst hji; rw [hd]; simp
   ·obtain ⟨h1, h2⟩ := (hP i _ hx j y hj hji).2 k hh hk'
    rcases Nat.lt_or_ge j i with hlt | hge
    ·rw [hwait j (h1 hlt)]; simp [hlt]
    ·rw [hlater j y hj (h2 (by omega))]; simp; omega
  have h2i : ctD d 0 z (ct0 olds) (2 * i + 1) = none := ctD_unmade hd z 0 _ (by unfold ct0; rw [if_pos (by omega)])
  have CC : ctD (fun j => j == i || d j) 0 z (ct0 olds) = spC i s (ctD d 0 z (ct0 olds)) := by
   funext k
   by_cases hk : k ∈ hits i s
   ·have hu := ctD_upto z 0 i (ct0 olds) _ hx
    rw [Nat.zero_add] at hu
    have h1 : ctD (fun j => j == i || d j) 0 z (ct0 olds) k = spC i s (ctD (fun j => decide (j < i)) 0 z (ct0 olds)) k := by
     rw [← hu]
     refine ctD_agree z 0 _ _ (fun j y hj hh => ?_) rfl
     rw [Nat.zero_add] at hh ⊢
     by_cases hji : j = i
     ·subst hji; simp
     ·rw [show (j == i) = false by simpa using hji, Bool.false_or]
      have hmain : (j < i → reach z z.length i j = true) ∧ (i < j → reach z z.length j i = true) := by
       rcases List.mem_append.1 hk with h3 | h3
       ·have hk2 : k = 2 * i + 1 := by
         cases hmm : s.2.2.1 with
         | none => rw [hmm] at h3; cases h3
         | some m => rw [hmm] at h3; exact List.mem_singleton.1 h3
        rcases List.mem_append.1 hh with h4 | h4
        ·exfalso
         cases hmm : y.2.2.2.1 with
         | none => rw [hmm] at h4; cases h4
         | some m =>
          rw [hmm] at h4
          have := List.mem_singleton.1 h4
          omega
        ·have hkk : k ∈ keysOf y.2 := List.mem_append_right _ h4
         have h5 := (hP j y hj i _ hx (fun e => hji e.symm)).2 k hk hkk
         have h6 := (hC j y hj).2.2.1 _ hkk
         exact ⟨fun hlt => by omega, fun hlt => h5.1 hlt⟩
       ·exact (hP i _ hx j y hj hji).2 k hh (List.mem_append_right _ h3)
      rcases Nat.lt_or_ge j i with hlt | hge
      ·rw [hwait j (hmain.1 hlt)]; simp; omega
      ·rw [hlater j y hj (hmain.2 (by omega))]; simp; omega
    rw [h1]
    rcases List.mem_append.1 hk with h3 | h3
    ·cases hmm : s.2.2.1 with
     | none => rw [hmm] at h3; cases h3
     | some m =>
      rw [hmm] at h3
      rw [List.mem_singleton.1 h3, spC_made hmm, spC_made hmm]
    ·exact spC_same s (CT k (List.mem_append_right _ h3)).symm
   ·rw [spC_other _ hk]
    refine ctD_agree z 0 _ _ (fun j y hj hh => ?_) rfl
    rw [Nat.zero_add] at hh ⊢
    by_cases hji : j = i
    ·subst hji
     rw [hx] at hj
     obtain rfl : (o, s) = y := by simpa using hj
     exact absurd hh hk
    ·rw [show (j == i) = false by simpa using hji]; rfl
  have hcl' : ∀ i' x', z[i']? = some x' → (i' == i || d i') = true → ∀ e ∈ x'.1.after, Region.binds .any e = true → (e.on == i || d e.on) = true := fun i' x' hx' hd' e he hb => by
   by_cases hii : i' = i
   ·subst hii
    rw [hx] at hx'
    obtain rfl : (o, s) = x' := by simpa using hx'
    rw [hpre e he hb, Bool.or_true]
   ·rw [show (i' == i) = false by simpa using hii, Bool.false_or] at hd'
    rw [hcl i' x' hx' hd' e he hb, Bool.or_true]
  have hadd : ∀ p' : Nat → Nat, (∀ j, j ≠ i → p' j = p j) → (s.2.2.1 = none → p' = p) → (actD p d 0 z a).put o.dst (spV p' s) = actD p' (fun j => j == i || d j) 0 z a := fun p' hp' hpn => by
   have := actD_add (p := p') (d := d) z 0 i a _ hx (by rw [Nat.zero_add]; exact hd) (fun j y hj hji t ht => by
    intro e
    exact ((hP i _ hx j y hj hji).1 t e).1 ht)
   rw [Nat.zero_add] at this
   rw [this, actD_congr (p' := p') (d' := d) z 0 a (fun _ _ => rfl) (fun j y hj hdj => ?_)]
   rw [Nat.zero_add] at hdj
   cases hmm : s.2.2.1 with
   | none => rw [hpn hmm]
   | some m =>
    have hji : j ≠ i := fun e => by rw [e, hd] at hdj; cases hdj
    refine (hobs p j _ hj).loc.same (hp' j hji).symm fun m' hm' hr' => (hp' m' fun e => ?_).symm
    subst e
    have hk : 2 * m' + 1 ∈ hits m' s := List.mem_append_left _ (by rw [hmm]; exact List.mem_singleton.2 rfl)
    have h5 := ((hP j y hj m' _ hx (fun e => hji e.symm)).2 _ hk (List.mem_append_left _ hr')).1 hm'
    rw [reach_pre hcl _ j m' y hj (hcl j y hj hdj) h5] at hd
    cases hd
  rw [WW]
  rcases hobs p i _ hx with ⟨hw, _, hfil, hob⟩ | ⟨hw, hsk⟩
  ·rw [if_pos hw]
   have hq := hob w' hst.kept fun k hkk y hy => hst.row k y (by rw [CT k hkk]; exact hy)
   rw [← E] at hq
   refine opw_eff hq fun v w2 hE => ?_
   obtain ⟨p', hp', hpn, hv, hs'⟩ := st_step hst hr hn h2i (fun k hk => CT k hk) hfil hE
   refine ⟨p', ?_, by rw [CC]; exact hs', hcl'⟩
   rw [hv]
   exact hadd p' hp' hpn
  ·rw [if_neg (by rw [hw]; decide)]
   have hsk' : s = skipS := hsk
   refine ⟨p, ?_, ?_, hcl'⟩
   ·rw [← hadd p (fun _ _ => rfl) (fun _ => rfl), hsk']
    rfl
   ·rw [CC, hsk']
    exact hst
variable {ops : Array Oper} {olds : Olds} {p : Nat → Nat} {W : World} {F : Act → Ct → Prop} {n : Nat} {l : List Oper} {pl : List Sp} {a : Act} {ct : Ct} {o : Oper} {s : Sp}
theorem mg_end (h : F a ct) : MG P ops olds p W F n [] [] a ct := ⟨h⟩
theorem mg_step (hw : Region.wanted o (yielded ops a.tmps) = true) (h : MX P olds p W (fun a' ct' => MG P ops olds p W F (n + 1) l pl a' ct') n [o] [s] a ct) : MG P ops olds p W F n (o :: l) (s :: pl) a ct :=
 ⟨⟨.inl ⟨hw, h.out.1⟩, h.out.2.out⟩⟩
theorem mg_skip (hw : Region.wanted o (yielded ops a.tmps) = false) (h : MG P ops olds p W F (n + 1) l pl (a.put o.dst undef) ct) : MG P ops olds p W F n (o :: l) (skipS :: pl) a ct :=
 ⟨⟨.inr ⟨hw, rfl⟩, h.out⟩⟩
theorem mx_pick (b : Bool) {c : Tmp} {x y : Operand} {v : Value} (ho : o.op = .pick (.tmp c) x y) (hc : a.tmps.toList[c]? = some (.bool b)) (hv : a.eval (if b = true then x else y) = v) (h : MX P olds p W F (n + 1) l pl (a.put o.dst v) ct) : MX P olds p W F n (o :: l) ((fun _ => v, [], none, []) :: pl) a ct := by
 have h' : a.tmps[c]? = some (.bool b) := by rw [← Array.getElem?_toList]; exact hc
 refine mx_val v (fun w => ?_) h
 subst hv
 unfold execOp
 rw [ho]
 have h2 : a.eval (.tmp c) = .bool b := by simp [Act.eval, h']
 simp only [h2]
 cases b <;> rfl
end
end Go.Proofs.Ytchiiphmpkmloaa
