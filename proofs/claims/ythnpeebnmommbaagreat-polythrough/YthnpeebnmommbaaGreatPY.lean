/- What poly's functions answer, as lists of numbers below Q: of a group that New has made. -/
import Derived.Test.YthnpeebnmommbaaGreatPyFun
import Derived.OwnWalk
namespace Go.Proofs.YthnpeebnmommbaaGreat
open Go.RowKit
set_option linter.unusedVariables false
set_option linter.unusedSectionVars false
section
variable {Q : Nat} [NeZero Q]
/-- An argument: naturals that by Q are a list's numbers. -/
def PlA (w : World) (v : Value) (L : List (Fin Q)) : Prop := ∃ ab n c F gb ob bcs tb, v = .slice ab n c ∧ n ≤ 1000 ∧ NatsAt w ab n F gb ob bcs tb ∧ fl n F = L
/-- A result: a list's numbers themselves. -/
def PlAt (w : World) (v : Value) (L : List (Fin Q)) : Prop := ∃ ab c gb ob bcs tb, v = .slice ab L.length c ∧ NatsAt w ab L.length (fun i => (pco L i).val) gb ob bcs tb
theorem PlA.below {w w' : World} {v : Value} {L : List (Fin Q)} (h : PlA w v L) (hb : Below w.heap.size w w') : PlA w' v L := by
 obtain ⟨ab, n, c, F, gb, ob, bcs, tb, h1, h2, h3, h4⟩ := h
 exact ⟨ab, n, c, F, gb, ob, bcs, tb, h1, h2, h3.below hb, h4⟩
theorem PlAt.below {w w' : World} {v : Value} {L : List (Fin Q)} (h : PlAt w v L) (hb : Below w.heap.size w w') : PlAt w' v L := by
 obtain ⟨ab, c, gb, ob, bcs, tb, h1, h3⟩ := h
 exact ⟨ab, c, gb, ob, bcs, tb, h1, h3.below hb⟩
theorem PlAt.arg {w : World} {v : Value} {L : List (Fin Q)} (h : PlAt w v L) (hl : L.length ≤ 1000) : PlA w v L := by
 obtain ⟨ab, c, gb, ob, bcs, tb, h1, h3⟩ := h
 exact ⟨ab, _, c, _, gb, ob, bcs, tb, h1, hl, h3, fl_of L⟩
theorem NatsAt.pl {w : World} {ab : Option Addr} {n c : Nat} {F : Nat → Nat} {gb ob : Nat} {bcs : Array Value} {tb : TypeId} (h : NatsAt w ab n F gb ob bcs tb) (hn : n ≤ 1000) : PlA w (.slice ab n c) (fl n F : List (Fin Q)) :=
 ⟨ab, n, c, F, gb, ob, bcs, tb, rfl, hn, h, rfl⟩
theorem plAt_nil (w : World) : PlAt w (.slice none 0 0) ([] : List (Fin Q)) := ⟨none, 0, 0, 0, #[], 0, rfl, ⟨.inl rfl, fun i hi => by simp at hi⟩⟩
/-- Numbers that were made, trimmed. -/
theorem plAt_of {w : World} {g n : Nat} {F : Nat → Nat} {L : List (Fin Q)} (r : Row w g (nsC n F) 26) (hQ : Q < 2 ^ 256) (hF : ∀ i, i < n → F i < Q) (hL : ∀ i, pco (fl n F : List (Fin Q)) i = pco L i) : PlAt w (.slice (some ⟨g, 0, none⟩) (yTn F n) n) (ptrim L) := by
 obtain ⟨h1, h2⟩ := tn_of n F L hF hL
 have h := (nats_row r fun i hi => Nat.lt_trans (hF i hi) hQ).take (yTn_le F n)
 rw [h1] at h h2
 rw [h1]
 exact ⟨_, _, _, _, _, _, rfl, h.congr fun i hi => h2 i hi⟩
section
variable {g gr gf P G : Nat} {w : World}
theorem addQ (va vb : Value) (La Lb : List (Fin Q)) (q : FdQ Q) (h : GrpAt w g gr gf P Q G) (ha : PlA w va La) (hb : PlA w vb Lb) :
  Calls Tryz.prog 16 #[.pointer (some ⟨g, 0, none⟩), va, vb] w fun e w' => ∃ v, e = .returned v ∧ PlAt w' v (psum La Lb) ∧ Below w.heap.size w w' := by
 obtain ⟨ab, n, c, F, gb, ob, bcs, tb, rfl, hn, hna, rfl⟩ := ha
 obtain ⟨ae, m, ce, E, ge, oe, ecs, te, rfl, hm, hnb, rfl⟩ := hb
 refine (padd_any _ ab ae n c m ce F E (fO Q) gb ob ge oe bcs ecs tb te w (by omega) (by omega) hna hnb (h.fa q)).mono ?_
 rintro e w' ⟨gx, rfl, _, r, hb⟩
 exact ⟨_, rfl, plAt_of r q.m (fun i _ => Nat.mod_lt _ q.pos) fun i => ySm_of n F m E i, hb⟩
theorem mulQ (va vb : Value) (La Lb : List (Fin Q)) (q : FdQ Q) (h : GrpAt w g gr gf P Q G) (ha : PlA w va La) (hb : PlA w vb Lb) :
  Calls Tryz.prog 18 #[.pointer (some ⟨g, 0, none⟩), va, vb] w fun e w' => ∃ v, e = .returned v ∧ PlAt w' v (pmul La Lb) ∧ Below w.heap.size w w' := by
 obtain ⟨ab, n, c, F, gb, ob, bcs, tb, rfl, hn, hna, rfl⟩ := ha
 obtain ⟨ae, m, ce, E, ge, oe, ecs, te, rfl, hm, hnb, rfl⟩ := hb
 refine (pmul_any _ ab ae n c m ce F E (fO Q) gb ob ge oe bcs ecs tb te w hn hm hna hnb (h.fa q)).mono ?_
 rintro e w' ⟨gx, rfl, _, r, hb⟩
 have ea : (fl (yTn (yTm (fO Q) F) n) (yTm (fO Q) F) : List (Fin Q)) = ptrim (fl n F) := by
  have h1 := tn_of n (yTm (fO Q) F) (fl n F : List (Fin Q)) (fun i _ => yTm_lt F i) (fun i => by rw [yTm_of])
  exact fl_pco _ _ _ h1.1 h1.2
 have eb : (fl (yTn (yTm (fO Q) E) m) (yTm (fO Q) E) : List (Fin Q)) = ptrim (fl m E) := by
  have h1 := tn_of m (yTm (fO Q) E) (fl m E : List (Fin Q)) (fun i _ => yTm_lt E i) (fun i => by rw [yTm_of])
  exact fl_pco _ _ _ h1.1 h1.2
 have hp := plAt_of (L := pmul (fl n F) (fl m E)) r q.m (fun i _ => yCv_lt _ _ _ _ _) fun i => by rw [yMl_of, ea, eb, pmul_trims]
 rw [pmul_trim] at hp
 exact ⟨_, rfl, hp, hb⟩
theorem evalQ (va : Value) (La : List (Fin Q)) (x : Nat) (hx : x < 2 ^ 256) (q : FdQ Q) (h : GrpAt w g gr gf P Q G) (ha : PlA w va La) :
  Calls Tryz.prog 12 #[.pointer (some ⟨g, 0, none⟩), va, .agg (natC x)] w fun e w' => e = .returned (.agg (natC (pev (fi x) La).val)) ∧ Below w.heap.size w w' := by
 obtain ⟨ab, n, c, F, gb, ob, bcs, tb, rfl, hn, hna, rfl⟩ := ha
 have := peval_any (some ⟨g, 0, none⟩) ab n c x F (fO Q) gb ob bcs tb w (by omega) hx hna (h.fa q)
 rw [yHv_of] at this
 exact this
end
end
end Go.Proofs.YthnpeebnmommbaaGreat
/- poly's takeOff and Div. -/
namespace Go.Proofs.YthnpeebnmommbaaGreat
open Go.RowKit
set_option linter.unusedVariables false
theorem y_part {P : Program} {o : Oper} {ρ : Operand → Value} (t : TypeId) (x lo hi : Operand) (ho : o.op = .slice t x (some lo) (some hi) none) (hu : P.underlying t = some (.slice (P.elem t))) (z : Nat) (hz : ∀ w, (sizeOf (P.elem t)).run P w = .ok z w) (g off n c l h : Nat) (hx : ρ x = .slice (some ⟨g, off, none⟩) n c) (hl : ρ lo = .int .i64 l) (hh : ρ hi = .int .i64 h) (h1 : l ≤ h) (h2 : h ≤ c) (h3 : l < c) (w : World) :
  (execOp ρ o).run P w = .ok (.value (.slice (some ⟨g, off + l * z, none⟩) (h - l) (c - l))) w := by
 have hr : (Instr.sliceAt t (.slice (some ⟨g, off, none⟩) n c) (some (.int .i64 l)) (some (.int .i64 h)) none).run P w = .ok (.slice (some ⟨g, off + l * z, none⟩) (h - l) (c - l)) w := by
  rw [run_sliceAt_slice w t _ _ _ _ hu, run_slice_lh w t _ n c hu .i64 .i64 l h (by omega) (by omega) (by omega), hz, Result.andThen_ok, Int.toNat_natCast, Int.toNat_natCast]
  unfold sliced
  rw [if_neg (by omega)]
  simp [Addr.add]
 unfold execOp
 simp only [ho, hx, hl, hh, Option.map_some, Option.map_none, Sem.run_bind, hr, Result.andThen_ok]
 rfl
/-- What takeOff leaves behind k steps. -/
def yTk (q : Nat) (lo : Nat) (B : Nat → Nat) (c : Nat) (R : Nat → Nat) (k i : Nat) : Nat := if lo ≤ i ∧ i < lo + k then sbN (R i) (B (i - lo) * c % q) q else R i
theorem yTk_0 (q lo : Nat) (B : Nat → Nat) (c : Nat) (R : Nat → Nat) : yTk q lo B c R 0 = R := funext fun i => if_neg (by omega)
set_option maxRecDepth 100000 in
set_option maxHeartbeats 2000000 in
theorem takeOff_any (v ae : Option Addr) (Q gR na lo m cf ce c : Nat) (R B : Nat → Nat) (ge oe : Nat) (ecs : Array Value) (te : TypeId) (w : World) (hQ : Q < 2 ^ 256) (h0 : 0 < Q) (hm : m ≤ 4000) (hna : na ≤ 4000) (hlo : lo + m ≤ na) (hc : c < 2 ^ 256) (hR : ∀ i, R i < Q) (hge : m ≠ 0 → ge ≠ gR)
  (rR : Row w gR (nsC na R) 26) (hnb : NatsAt w ae m B ge oe ecs te) (hmu : ∀ A B w', A < 2 ^ 256 → B < 2 ^ 256 → Kept [gR] w w' → Calls Tryz.prog 33 #[.pointer v, .agg (natC A), .agg (natC B)] w' fun e w2 => e = .returned (.agg (natC (A * B % Q))) ∧ Below w'.heap.size w' w2) (hsu : ∀ A B w', A < 2 ^ 256 → B < 2 ^ 256 → Kept [gR] w w' → Calls Tryz.prog 46 #[.pointer v, .agg (natC A), .agg (natC B)] w' fun e w2 => e = .returned (.agg (natC (sbN A B Q))) ∧ Below w'.heap.size w' w2) :
  Calls Tryz.prog 43 #[.pointer v, .slice (some ⟨gR, 0 + lo * 4, none⟩) m cf, .slice ae m ce, .agg (natC c)] w fun e w' => e = .returned (.tuple #[]) ∧ Row w' gR (nsC na (yTk Q lo B c R m)) 26 ∧ Kept [gR] w w' := by
 have HE : Hid (NatsAt w ae m B ge oe ecs te) := hnb
 have HR : Hid (∀ k i, yTk Q lo B c R k i < 2 ^ 256) := fun k i => by
  unfold yTk
  split
  ·exact Nat.lt_trans (Nat.mod_lt _ h0) hQ
  ·exact Nat.lt_trans (hR i) hQ
 have HC : Hid (c < 2 ^ 256) := hc
 have hltR := rR.lt
 have sk := Kept.refl [gR] w
 clear hnb hR hc
 go_enter Tryz.func43, Tryz.ntmps43
 (repeat ((fail_if_success with_reducible refine rg ?_); go_step))
 refine wp_region_pw ?_
 refine pw_boxr (by rfl) 26 _ rfl (_) rfl ?_
 intro g7 z0 n0 r7 k
 simp only [Act.put, pu]
 have dRx7 := Nat.lt_of_lt_of_le rR.lt n0
 have b7 := Nat.le_trans sk.size n0
 clear n0
 replace rR := k.row rR (by simp <;> omega)
 replace sk := sk.trans k (by simp <;> omega)
 clear k
 refine pw_nil ?_
 (repeat ((fail_if_success with_reducible refine rg ?_); go_step))
 refine wp_region_pw ?_
 refine pw_mv (by rfl) rfl rfl ?_
 simp only [Act.put, pu]
 refine pw_value (by rfl) (.int .i64 m) (exec_len_s 22 _ rfl (ae) (m) (ce) rfl sl_natsX) ?_
 simp only [Act.put, pu]
 refine pw_value (by rfl) (.int .i64 0) (fun _ => rfl) ?_
 simp only [Act.put, pu]
 refine pw_nil ?_
 go_wp2_with fail
 go_loopg [8, 11] m (fun g s8 s11 wr => ∃ k : Nat, k + g = m ∧ s11 = .int .i64 k ∧ Row wr gR (nsC na (yTk Q lo B c R k)) 26 ∧ Row wr g7 (natC c) 26 ∧ Kept [gR] w wr)
 case atStart => exact ⟨0, by omega, rfl, by rw [yTk_0]; exact rR, r7, sk⟩
 case round =>
  clear rR r7 sk
  obtain ⟨k, hk, rfl, rR, r7, sk⟩ := hrel
  cases gk with
  | zero =>
   obtain rfl : k = m := by omega
   clear hk HR
   (repeat ((fail_if_success with_reducible refine rg ?_); go_step))
   refine wp_region_pw ?_
   refine pw_value (by rfl) (.bool false) (exec_lt_b _ _ _ _ rfl k k rfl rfl false (decide_eq_false (Int.lt_irrefl _))) ?_
   simp only [Act.put, pu]
   refine pw_nil ?_
   go_wp2
   go_end0
   exact ⟨rfl, rR, sk⟩
  | succ g =>
   have hlt : k < m := by omega
   (repeat ((fail_if_success with_reducible refine rg ?_); go_step))
   refine wp_region_pw ?_
   refine pw_value (by rfl) (.bool true) (exec_lt_b _ _ _ _ rfl k m rfl rfl true (decide_eq_true (by omega))) ?_
   simp only [Act.put, pu]
   refine pw_nil ?_
   (repeat ((fail_if_success with_reducible refine rg ?_); go_step))
   refine wp_region_pw ?_
   refine pw_mv (by rfl) rfl rfl ?_
   refine pw_as (by rfl) rfl rfl ?_
   simp only [Act.put, pu]
   refine pw_nil ?_
   obtain h1 | ⟨rfl, rE, het⟩ := HE.out.at'
   ·exact absurd h1 (by omega)
   have het' := het k hlt
   have hgeR := hge (by omega)
   replace rE := sk.rowR rE (by simpa using hgeR)
   have hlt7 : ge ≠ g7 := fun e => by
    rcases HE.out.at' with h1 | ⟨_, q, _⟩
    ·omega
    ·have := q.lt
     omega
   have hpart : ∀ j u, (natC (yTk Q lo B c R k (lo + k))).toList[j]? = some u → (nsC na (yTk Q lo B c R k))[0 + lo * 4 + k * 4 + j]? = some u := nsC_part na _ (lo + k) (by omega) (0 + lo * 4 + k * 4) (by omega)
   have hold : yTk Q lo B c R k (lo + k) = R (lo + k) := if_neg (by omega)
   have hput := nsC_put na (yTk Q lo B c R k) (yTk Q lo B c R (k + 1)) (lo + k) (by omega) (0 + lo * 4 + k * 4) (by omega) (yTk Q lo B c R (k + 1) (lo + k)) (fun j hj => by
    by_cases hjk : j = lo + k
    ·rw [if_pos hjk, hjk]
    ·rw [if_neg hjk]
     unfold yTk
     by_cases h2 : lo ≤ j ∧ j < lo + k
     ·rw [if_pos h2, if_pos (by omega)]
     ·rw [if_neg h2, if_neg (by omega)])
   have hval : yTk Q lo B c R (k + 1) (lo + k) = sbN (R (lo + k)) (B k * c % Q) Q := by
    unfold yTk
    rw [if_pos (by omega), show lo + k - lo = k by omega]
   have hm2 := fun w' (hk : Kept [gR] w w') => hmu (B k) c w' (HE.out.lt k hlt) HC.out hk
   have hs2 := fun w' (hk : Kept [gR] w w') => hsu (yTk Q lo B c R k (lo + k)) (B k * c % Q) w' (HR.out _ _) (Nat.lt_trans (Nat.mod_lt _ h0) hQ) hk
   rw [hold, ← hval, ← hold] at hs2
   rw [hold] at hpart hs2
   clear hval hold
   generalize yTk Q lo B c R (k + 1) (lo + k) = X at *
   clear het
   (repeat ((fail_if_success with_reducible refine rg ?_); go_step))
   apply wp_region_mix (by kernel_rfl) [(gR, 26, nsC na (yTk Q lo B c R k))] [_, _, _, _, _, _, _, _, _, _, _, _, _, _, _, _, _] ⟨rR, trivial⟩ (by simp <;> omega)
   ·intro p
    refine mx_move rfl rfl ?_
    refine mx_move rfl rfl ?_
    refine mx_move rfl rfl ?_
    refine mx_move rfl rfl ?_
    refine mx_move rfl rfl ?_
    simp only [Act.put, pu]
    refine mx_val (.pointer (some ⟨gR, 0 + lo * 4 + k * 4, none⟩)) ((exec_index_s 22 _ _ rfl gR (0 + lo * 4) m cf rfl k rfl hlt _ Tryz.underlying22 4 size_nat4)) ?_
    simp only [Act.put, pu]
    refine mx_loadmT 0 26 _ rfl (0 + lo * 4 + k * 4) rfl rfl (natC (R (lo + k))) hpart _ Tryz.underlying26 rfl size_nat ?_
    refine mx_move rfl rfl ?_
    refine mx_move rfl rfl ?_
    refine mx_move rfl rfl ?_
    simp only [Act.put, pu]
    refine mx_val (.pointer (some ⟨ge, oe + k * 4, none⟩)) ((exec_index_s 22 _ _ rfl ge oe (m) (ce) rfl (k) rfl (hlt) _ Tryz.underlying22 4 size_nat4)) ?_
    simp only [Act.put, pu]
    refine mx_loadmR 26 _ rfl _ (oe + k * 4) rfl rE (by simp <;> omega) (natC (B k)) het' _ Tryz.underlying26 rfl size_nat ?_
    simp only [Act.put, pu]
    refine mx_load 26 _ rfl _ rfl r7 (by simp <;> omega) 4 _ Tryz.underlying26 size_nat ?_
    simp only [Act.put, pu]
    refine mx_callK 33 _ _ rfl Tryz.func33 (by kernel_rfl) #[.pointer v, .agg (natC (B k)), .agg (natC c)] rfl _ (fun w' hk => hm2 w' (sk.trans hk (by simp))) ?_
    simp only [Act.put, pu]
    refine mx_callK 46 _ _ rfl Tryz.func46 (by kernel_rfl) #[.pointer v, .agg (natC (R (lo + k))), .agg (natC (B k * c % Q))] rfl _ (fun w' hk => hs2 w' (sk.trans hk (by simp))) ?_
    simp only [Act.put, pu]
    refine mx_val (.pointer (some ⟨gR, 0 + lo * 4 + k * 4, none⟩)) ((exec_index_s 22 _ _ rfl gR (0 + lo * 4) m cf rfl k rfl hlt _ Tryz.underlying22 4 size_nat4)) ?_
    simp only [Act.put, pu]
    refine mx_putm 0 26 _ _ rfl (0 + lo * 4 + k * 4) rfl rfl (natC X) rfl (by exact size_nat) (by rw [nsC_size, natC_size]; omega) (natC_one _) (nsC na (yTk Q lo B c R (k + 1))) hput ?_
    simp only [Act.put]
    refine mx_end ?_
    intro w2 hkw hrw hnew hdis
    have zrR : Row w2 (gR) (nsC na (yTk Q lo B c R (k + 1))) 26 := hrw 0 (26, nsC na (yTk Q lo B c R (k + 1))) rfl
    replace r7 := hkw.row r7 (by simp <;> omega)
    replace sk := sk.trans hkw (by simp)
    clear hkw hrw hnew hdis rR
    have rR := zrR
    clear zrR
    (repeat ((fail_if_success with_reducible refine rg ?_); go_step))
    refine wp_region_pw ?_
    refine pw_value (by rfl) (.int .i64 ((k + 1 : Nat) : Int)) (exec_add_in _ _ _ _ rfl k 1 rfl rfl (by omega)) ?_
    refine pw_mv (by rfl) rfl rfl ?_
    simp only [Act.put, pu]
    refine pw_nil ?_
    go_wp2
    go_roundg g
    case measure => omega
    case rel => exact ⟨k + 1, by omega, rfl, rR, r7, sk⟩
   ·kernel_rfl
set_option maxRecDepth 100000 in
set_option maxHeartbeats 2000000 in
theorem div_raw (g gr gf P Q G na ca nb cb : Nat) (ab ae : Option Addr) (F E : Nat → Nat) (gb ob ge oe : Nat) (bcs ecs : Array Value) (tb te : TypeId) (w : World) (q : FdQ Q) (hn : na ≤ 1000) (hm : nb ≤ 1000) (hna : NatsAt w ab na F gb ob bcs tb) (hnb : NatsAt w ae nb E ge oe ecs te) (h : GrpAt w g gr gf P Q G) (m n d : Nat) (B R0 : Nat → Nat) (IV : Nat) (hB : B = yTm (fO Q) E) (hR0 : R0 = yTm (fO Q) F) (hmm : yTn B nb = m) (hnn : yTn R0 na = n) (hd : n + 1 - m = d) (hIV : IV = invZ (B (m - 1)) Q) (hm0 : 0 < m) :
  Calls Tryz.prog 20 #[.pointer (some ⟨g, 0, none⟩), .slice ab na ca, .slice ae nb cb] w fun e w' => ∃ gO gR, e = .returned (.tuple #[.slice (some ⟨gO, 0, none⟩) d d, .slice (some ⟨gR, 0, none⟩) (yTn (yDv Q m d B IV R0 d).1 n) na, .int .i64 0]) ∧ Row w' gO (nsC d (yDv Q m d B IV R0 d).2) 26 ∧ Row w' gR (nsC na (yDv Q m d B IV R0 d).1) 26 ∧ Below w.heap.size w w' := by
 have htb := fun w' (hb : Below w.heap.size w w') => trim_any (some ⟨g, 0, none⟩) ae nb cb E (fO Q) ge oe ecs te w' (by omega) (hnb.below hb) ((h.fa q).below hb)
 have hta := fun w' (hb : Below w.heap.size w w') => trim_any (some ⟨g, 0, none⟩) ab na ca F (fO Q) gb ob bcs tb w' (by omega) (hna.below hb) ((h.fa q).below hb)
 have hBlt : ∀ i, B i < Q := fun i => by rw [hB]; exact Nat.mod_lt _ q.pos
 have hRlt : ∀ i, R0 i < Q := fun i => by rw [hR0]; exact Nat.mod_lt _ q.pos
 rw [← hB, hmm] at htb
 rw [← hR0, hnn] at hta
 have hmb : m ≤ nb := hmm ▸ yTn_le B nb
 have hnb' : n ≤ na := hnn ▸ yTn_le R0 na
 haveI : NeZero Q := ⟨by have := q.pos; omega⟩
 have HL : Hid (∀ k, (∀ i, (yDv Q m d B IV R0 k).1 i < Q) ∧ ∀ i, (yDv Q m d B IV R0 k).2 i < Q) := fun k => ⟨fun i => (yDv_lt m d (i + 1) B IV R0 (fun j _ => hRlt j) k).1 i (by omega), (yDv_lt m d 0 B IV R0 (fun j _ => hRlt j) k).2⟩
 have HBl : Hid (∀ i, B i < 2 ^ 256) := fun i => Nat.lt_trans (hBlt i) q.m
 have hIVl : IV < 2 ^ 256 := by rw [hIV]; exact Nat.lt_trans (inv_lt _ _ q.pr) q.m
 have hiv := fun w' (hb : Below w.heap.size w w') => fInv_ok (B (m - 1)) g gr gf P Q G w' (HBl.out _) q (h.below hb)
 rw [← hIV] at hiv
 have hmu := fun (X Y : Nat) w' (hX : X < 2 ^ 256) (hY : Y < 2 ^ 256) (hb : Below w.heap.size w w') => fMul_ok X Y g gr gf P Q G w' hX hY q (h.below hb)
 have hsu := fun (X Y : Nat) w' (hX : X < 2 ^ 256) (hY : Y < 2 ^ 256) (hb : Below w.heap.size w w') => fSub_ok X Y g gr gf P Q G w' hX hY q (h.below hb)
 have hd2 : (if ((n : Int) - (m : Int) + 1) > 0 then ((n : Int) - (m : Int) + 1) else 0) = ((d : Nat) : Int) := by split <;> omega
 obtain ⟨ie, hie, hze, hsz, hby⟩ := info_nat'
 have hgrow := h.row.lt
 clear hna hnb h hB hR0 hmm hnn hIV hBlt hRlt
 go_enter Tryz.func20, Tryz.ntmps20
 have sb := sbmk w
 (repeat ((fail_if_success with_reducible refine rg ?_); go_step))
 refine wp_region_pw ?_
 refine pw_value (by rfl) (.slice none 0 0) ((fun _ => rfl)) ?_
 simp only [Act.put, pu]
 refine pw_value (by rfl) (.slice none 0 0) ((fun _ => rfl)) ?_
 simp only [Act.put, pu]
 refine pw_value (by rfl) (.int .i64 0) (fun _ => rfl) ?_
 simp only [Act.put, pu]
 refine pw_nil ?_
 (repeat ((fail_if_success with_reducible refine rg ?_); go_step))
 refine wp_region_pw ?_
 refine pw_mv (by rfl) rfl rfl ?_
 refine pw_mv (by rfl) rfl rfl ?_
 simp only [Act.put, pu]
 refine pw_callE (by rfl) 10 _ _ rfl Tryz.func10 (by kernel_rfl) #[.pointer (some ⟨g, 0, none⟩), .slice ae nb cb] rfl (htb _ sb) ?_
 rintro _ z1002 ⟨gB, rfl, nB, rB, hb⟩
 refine ⟨_, rfl, ?_⟩
 simp only [Act.put, pu]
 have bB := Nat.le_trans sb.size nB
 clear nB
 have k := Kept.ofBelow hb
 clear hb
 replace sb := sb.trans (k.below w.heap.size sb.size (by simp <;> omega))
 clear k
 refine pw_as (by rfl) rfl rfl ?_
 simp only [Act.put, pu]
 refine pw_nil ?_
 (repeat ((fail_if_success with_reducible refine rg ?_); go_step))
 refine wp_region_pw ?_
 refine pw_mv (by rfl) rfl rfl ?_
 simp only [Act.put, pu]
 refine pw_value (by rfl) (.int .i64 m) (exec_len_s 22 _ rfl (some ⟨gB, 0, none⟩) (m) (nb) rfl sl_natsX) ?_
 simp only [Act.put, pu]
 refine pw_value (by rfl) (.bool false) (exec_eql_k .i64 _ _ _ _ rfl m 0 rfl rfl false (decide_eq_false (by omega))) ?_
 simp only [Act.put, pu]
 refine pw_nil ?_
 (repeat ((fail_if_success with_reducible refine rg ?_); go_step))
 refine wp_region_pw ?_
 refine pw_mv (by rfl) rfl rfl ?_
 refine pw_mv (by rfl) rfl rfl ?_
 simp only [Act.put, pu]
 refine pw_callE (by rfl) 10 _ _ rfl Tryz.func10 (by kernel_rfl) #[.pointer (some ⟨g, 0, none⟩), .slice ab na ca] rfl (hta _ sb) ?_
 rintro _ z4002 ⟨gR, rfl, nR, rR, hb⟩
 refine ⟨_, rfl, ?_⟩
 simp only [Act.put, pu]
 have dBxR := Nat.lt_of_lt_of_le rB.lt nR
 have bR := Nat.le_trans sb.size nR
 clear nR
 have k := Kept.ofBelow hb
 clear hb
 replace rB := k.row rB (by simp <;> omega)
 replace sb := sb.trans (k.below w.heap.size sb.size (by simp <;> omega))
 clear k
 refine pw_as (by rfl) rfl rfl ?_
 simp only [Act.put, pu]
 refine pw_nil ?_
 have hpB : ∀ j u, (natC (B (m - 1))).toList[j]? = some u → (nsC nb B)[0 + (m - 1) * 4 + j]? = some u := nsC_part nb B (m - 1) (by omega) _ (by omega)
 clear htb hta
 (repeat ((fail_if_success with_reducible refine rg ?_); go_step))
 refine wp_region_pw ?_
 refine pw_mv (by rfl) rfl rfl ?_
 refine pw_mv (by rfl) rfl rfl ?_
 refine pw_mv (by rfl) rfl rfl ?_
 simp only [Act.put, pu]
 refine pw_value (by rfl) (.int .i64 m) (exec_len_s 22 _ rfl (some ⟨gB, 0, none⟩) (m) (nb) rfl sl_natsX) ?_
 simp only [Act.put, pu]
 refine pw_value (by rfl) (.int .i64 ((m - 1 : Nat) : Int)) (exec_sub_in _ _ _ _ rfl m 1 rfl rfl (by omega) (by omega)) ?_
 simp only [Act.put, pu]
 refine pw_value (by rfl) (.pointer (some ⟨gB, 0 + (m - 1) * 4, none⟩)) ((exec_index_s 22 _ _ rfl gB 0 (m) (nb) rfl ((m - 1)) rfl (by omega) _ Tryz.underlying22 4 size_nat4)) ?_
 simp only [Act.put, pu]
 refine pw_loadm (by rfl) 26 _ rfl _ (0 + (m - 1) * 4) rfl rB.r (natC (B (m - 1))) hpB _ Tryz.underlying26 rfl size_nat ?_
 simp only [Act.put, pu]
 refine pw_callB (by rfl) 42 _ _ rfl Tryz.func42 (by kernel_rfl) #[.pointer (some ⟨g, 0, none⟩), .agg (natC (B (m - 1)))] rfl _ (hiv _ sb) ?_
 intro z5007 k
 simp only [Act.put, pu]
 replace rB := k.row rB (by simp <;> omega)
 replace rR := k.row rR (by simp <;> omega)
 replace sb := sb.trans (k.below w.heap.size sb.size (by simp <;> omega))
 clear k
 refine pw_new (by rfl) 26 rfl _ zero_nat ?_
 intro g10 z5008 n0 r10 k
 simp only [Act.put, pu]
 have dBx10 := Nat.lt_of_lt_of_le rB.lt n0
 have dRx10 := Nat.lt_of_lt_of_le rR.lt n0
 have b10 := Nat.le_trans sb.size n0
 clear n0
 replace rB := k.row rB (by simp <;> omega)
 replace rR := k.row rR (by simp <;> omega)
 replace sb := sb.trans (k.below w.heap.size sb.size (by simp <;> omega))
 clear k
 refine pw_put (by rfl) 26 _ _ rfl _ rfl r10 (natC IV) rfl (by exact size_nat) (by simp only [natC_size]) (natC_one _) ?_
 clear r10
 intro z5009 r10 k
 simp only [Act.put]
 replace rB := k.row rB (by simp <;> omega)
 replace rR := k.row rR (by simp <;> omega)
 replace sb := sb.trans (k.below w.heap.size sb.size (by simp <;> omega))
 clear k
 refine pw_nil ?_
 clear hpB hiv
 (repeat ((fail_if_success with_reducible refine rg ?_); go_step))
 refine wp_region_pw ?_
 refine pw_mv (by rfl) rfl rfl ?_
 simp only [Act.put, pu]
 refine pw_value (by rfl) (.int .i64 n) (exec_len_s 22 _ rfl (some ⟨gR, 0, none⟩) (n) (na) rfl sl_natsX) ?_
 refine pw_mv (by rfl) rfl rfl ?_
 simp only [Act.put, pu]
 refine pw_value (by rfl) (.int .i64 m) (exec_len_s 22 _ rfl (some ⟨gB, 0, none⟩) (m) (nb) rfl sl_natsX) ?_
 simp only [Act.put, pu]
 refine pw_value (by rfl) (.int .i64 ((n : Int) - (m : Int))) (y_subI _ _ _ _ rfl n m _ rfl rfl (by rw [IntKind.wrap_i64]; omega)) ?_
 simp only [Act.put, pu]
 refine pw_value (by rfl) (.int .i64 ((n : Int) - (m : Int) + 1)) (y_addI _ _ _ _ rfl ((n : Int) - (m : Int)) 1 _ rfl rfl (by rw [IntKind.wrap_i64]; omega)) ?_
 simp only [Act.put, pu]
 refine pw_value (by rfl) (.int .i64 (d : Nat)) (y_max _ _ _ rfl 0 ((n : Int) - (m : Int) + 1) _ rfl rfl hd2) ?_
 simp only [Act.put, pu]
 refine pw_make (by rfl) 22 26 _ _ rfl ie _ Tryz.underlying22 hie hze d rfl rfl (by rw [hsz]; omega) (by rw [hby]; omega) (by omega) ?_
 intro gO z6007 n0 rO k
 simp only [Act.put, pu]
 have dBxO := Nat.lt_of_lt_of_le rB.lt n0
 have dRxO := Nat.lt_of_lt_of_le rR.lt n0
 have d10xO := Nat.lt_of_lt_of_le r10.lt n0
 have bO := Nat.le_trans sb.size n0
 clear n0
 replace rB := k.row rB (by simp <;> omega)
 replace rR := k.row rR (by simp <;> omega)
 replace r10 := k.row r10 (by simp <;> omega)
 replace sb := sb.trans (k.below w.heap.size sb.size (by simp <;> omega))
 clear k
 refine pw_as (by rfl) rfl rfl ?_
 simp only [Act.put, pu]
 refine pw_nil ?_
 rw [hsz, made_nats] at rO
 clear hd2
 (repeat ((fail_if_success with_reducible refine rg ?_); go_step))
 refine wp_region_pw ?_
 refine pw_mv (by rfl) rfl rfl ?_
 simp only [Act.put, pu]
 refine pw_value (by rfl) (.int .i64 d) (exec_len_s 22 _ rfl (some ⟨gO, 0, none⟩) (d) (d) rfl sl_natsX) ?_
 simp only [Act.put, pu]
 refine pw_value (by rfl) (.int .i64 0) (fun _ => rfl) ?_
 simp only [Act.put, pu]
 refine pw_nil ?_
 go_wp2_with fail
 go_loopg [12, 13, 14, 42] d (fun x s12 s13 s14 s42 wr => ∃ k : Nat, k + x = d ∧ s42 = .int .i64 k ∧ Row wr gR (nsC na (yDv Q m d B IV R0 k).1) 26 ∧ Row wr gO (nsC d (yDv Q m d B IV R0 k).2) 26 ∧ Row wr gB (nsC nb B) 26 ∧ Row wr g10 (natC IV) 26 ∧ Below w.heap.size w wr)
 case atStart => exact ⟨0, by omega, rfl, rR, rO, rB, r10, sb⟩
 case round =>
  clear rR rO rB r10 sb
  obtain ⟨k, hk, rfl, rR, rO, rB, r10, sb⟩ := hrel
  cases gk with
  | zero =>
   obtain rfl : k = d := by omega
   have htr := fun w' (r : Row w' gR (nsC na (yDv Q m k B IV R0 k).1) 26) => trimmed_any (some ⟨gR, 0, none⟩) n na (yDv Q m k B IV R0 k).1 gR 0 _ _ w' (by omega) hnb' ((nats_row r (fun i _ => Nat.lt_trans ((HL.out k).1 i) q.m)).take hnb')
   clear hk hmu hsu
   (repeat ((fail_if_success with_reducible refine rg ?_); go_step))
   refine wp_region_pw ?_
   refine pw_value (by rfl) (.bool false) (exec_lt_b _ _ _ _ rfl k k rfl rfl false (decide_eq_false (Int.lt_irrefl _))) ?_
   simp only [Act.put, pu]
   refine pw_nil ?_
   (repeat ((fail_if_success with_reducible refine rg ?_); go_step))
   refine wp_region_pw ?_
   refine pw_mv (by rfl) rfl rfl ?_
   refine pw_mv (by rfl) rfl rfl ?_
   simp only [Act.put, pu]
   refine pw_callB (by rfl) 44 _ _ rfl Tryz.func44 (by kernel_rfl) #[.slice (some ⟨gR, 0, none⟩) n na] rfl _ (htr _ rR) ?_
   intro z15002 k
   simp only [Act.put, pu]
   replace rR := k.row rR (by simp <;> omega)
   replace rO := k.row rO (by simp <;> omega)
   replace sb := sb.trans (k.below w.heap.size sb.size (by simp <;> omega))
   clear k
   refine pw_as (by rfl) rfl rfl ?_
   refine pw_as (by rfl) rfl rfl ?_
   simp only [Act.put, pu]
   refine pw_value (by rfl) (.int .i64 0) (fun _ => rfl) ?_
   simp only [Act.put, pu]
   refine pw_nil ?_
   go_wp2
   go_ret3
   exact ⟨gO, gR, rfl, rO, rR, sb⟩
  | succ x =>
   have hlt : k < d := by omega
   obtain ⟨lo, hlo⟩ : ∃ lo, d - 1 - k = lo := ⟨_, rfl⟩
   have hlon : lo + m ≤ na := by omega
   obtain ⟨cc, hcc⟩ : ∃ cc, (yDv Q m d B IV R0 k).1 (lo + m - 1) * IV % Q = cc := ⟨_, rfl⟩
   have hccl : cc < 2 ^ 256 := by rw [← hcc]; exact Nat.lt_trans (Nat.mod_lt _ q.pos) q.m
   have hpart : ∀ j u, (natC ((yDv Q m d B IV R0 k).1 (lo + m - 1))).toList[j]? = some u → (nsC na (yDv Q m d B IV R0 k).1)[0 + lo * 4 + (m - 1) * 4 + j]? = some u := nsC_part na _ (lo + m - 1) (by omega) _ (by omega)
   have hput := nsC_put d (yDv Q m d B IV R0 k).2 (yDv Q m d B IV R0 (k + 1)).2 lo (by omega) (0 + lo * 4) (by omega) cc (fun j hj => by
    show (if j = d - 1 - k then _ else _) = _
    rw [hlo, hcc])
   have hpO : ∀ j u, (natC cc).toList[j]? = some u → (nsC d (yDv Q m d B IV R0 (k + 1)).2)[0 + lo * 4 + j]? = some u := by
    have e : (yDv Q m d B IV R0 (k + 1)).2 lo = cc := by
     show (if lo = d - 1 - k then _ else _) = _
     rw [hlo, if_pos rfl, hcc]
    have := nsC_part d (yDv Q m d B IV R0 (k + 1)).2 lo (by omega) (0 + lo * 4) (by omega)
    rw [e] at this
    exact this
   have hmu2 := fun w' (hb : Below w.heap.size w w') => hmu ((yDv Q m d B IV R0 k).1 (lo + m - 1)) IV w' (Nat.lt_trans ((HL.out k).1 _) q.m) hIVl hb
   have HRE : Hid (yTk Q lo B cc (yDv Q m d B IV R0 k).1 m = (yDv Q m d B IV R0 (k + 1)).1) := funext fun i => by
    show _ = if d - 1 - k ≤ i ∧ i < d - 1 - k + m then _ else _
    rw [hlo, hcc]
    rfl
   rw [hcc] at hmu2
   (repeat ((fail_if_success with_reducible refine rg ?_); go_step))
   refine wp_region_pw ?_
   refine pw_value (by rfl) (.bool true) (exec_lt_b _ _ _ _ rfl k d rfl rfl true (decide_eq_true (by omega))) ?_
   simp only [Act.put, pu]
   refine pw_nil ?_
   (repeat ((fail_if_success with_reducible refine rg ?_); go_step))
   refine wp_region_pw ?_
   refine pw_mv (by rfl) rfl rfl ?_
   refine pw_as (by rfl) rfl rfl ?_
   simp only [Act.put, pu]
   refine pw_nil ?_
   (repeat ((fail_if_success with_reducible refine rg ?_); go_step))
   refine wp_region_pw ?_
   refine pw_mv (by rfl) rfl rfl ?_
   simp only [Act.put, pu]
   refine pw_value (by rfl) (.int .i64 d) (exec_len_s 22 _ rfl (some ⟨gO, 0, none⟩) (d) (d) rfl sl_natsX) ?_
   simp only [Act.put, pu]
   refine pw_value (by rfl) (.int .i64 ((d - 1 : Nat) : Int)) (exec_sub_in _ _ _ _ rfl d 1 rfl rfl (by omega) (by omega)) ?_
   refine pw_mv (by rfl) rfl rfl ?_
   simp only [Act.put, pu]
   refine pw_value (by rfl) (.int .i64 ((lo : Nat) : Int)) (fun w' => (exec_sub_in _ _ _ _ rfl (d - 1) k rfl rfl (by omega) (by omega) w').trans (by rw [hlo])) ?_
   refine pw_as (by rfl) rfl rfl ?_
   simp only [Act.put, pu]
   refine pw_nil ?_
   (repeat ((fail_if_success with_reducible refine rg ?_); go_step))
   refine wp_region_pw ?_
   refine pw_mv (by rfl) rfl rfl ?_
   refine pw_mv (by rfl) rfl rfl ?_
   refine pw_mv (by rfl) rfl rfl ?_
   refine pw_mv (by rfl) rfl rfl ?_
   simp only [Act.put, pu]
   refine pw_value (by rfl) (.int .i64 m) (exec_len_s 22 _ rfl (some ⟨gB, 0, none⟩) (m) (nb) rfl sl_natsX) ?_
   simp only [Act.put, pu]
   refine pw_value (by rfl) (.int .i64 ((lo + m : Nat) : Int)) (exec_add_in _ _ _ _ rfl lo m rfl rfl (by omega)) ?_
   simp only [Act.put, pu]
   refine pw_value (by rfl) (.slice (some ⟨gR, 0 + lo * 4, none⟩) m (na - lo)) (fun w' => (y_part _ _ _ _ rfl sl_natsX 4 size_eln gR 0 n na lo (lo + m) rfl rfl rfl (by omega) (by omega) (by omega) w').trans (by rw [Nat.add_sub_cancel_left])) ?_
   refine pw_as (by rfl) rfl rfl ?_
   simp only [Act.put, pu]
   refine pw_nil ?_
   clear hcc
   (repeat ((fail_if_success with_reducible refine rg ?_); go_step))
   apply wp_region_mix (by kernel_rfl) [(gO, 26, nsC d (yDv Q m d B IV R0 k).2)] [_, _, _, _, _, _, _, _, _, _, _, _, _] ⟨rO, trivial⟩ (by simp <;> omega)
   ·intro p
    refine mx_move rfl rfl ?_
    refine mx_move rfl rfl ?_
    refine mx_move rfl rfl ?_
    refine mx_move rfl rfl ?_
    refine mx_move rfl rfl ?_
    simp only [Act.put, pu]
    refine mx_val (.int .i64 m) (exec_len_s 22 _ rfl (some ⟨gB, 0, none⟩) (m) (nb) rfl sl_natsX) ?_
    simp only [Act.put, pu]
    refine mx_val (.int .i64 ((m - 1 : Nat) : Int)) ((exec_sub_in _ _ _ _ rfl m 1 rfl rfl (by omega) (by omega))) ?_
    simp only [Act.put, pu]
    refine mx_val (.pointer (some ⟨gR, 0 + lo * 4 + (m - 1) * 4, none⟩)) ((exec_index_s 22 _ _ rfl gR (0 + lo * 4) m (na - lo) rfl (m - 1) rfl (by omega) _ Tryz.underlying22 4 size_nat4)) ?_
    simp only [Act.put, pu]
    refine mx_loadm 26 _ rfl _ (0 + lo * 4 + (m - 1) * 4) rfl rR (by simp <;> omega) (natC ((yDv Q m d B IV R0 k).1 (lo + m - 1))) hpart _ Tryz.underlying26 rfl size_nat ?_
    simp only [Act.put, pu]
    refine mx_load 26 _ rfl _ rfl r10 (by simp <;> omega) 4 _ Tryz.underlying26 size_nat ?_
    simp only [Act.put, pu]
    refine mx_callK 33 _ _ rfl Tryz.func33 (by kernel_rfl) #[.pointer (some ⟨g, 0, none⟩), .agg (natC ((yDv Q m d B IV R0 k).1 (lo + m - 1))), .agg (natC IV)] rfl _ (fun w' hk => hmu2 w' (sb.trans (hk.below w.heap.size sb.size (by simp <;> omega)))) ?_
    simp only [Act.put, pu]
    refine mx_val (.pointer (some ⟨gO, 0 + lo * 4, none⟩)) ((exec_index_s 22 _ _ rfl gO 0 d d rfl lo rfl (by omega) _ Tryz.underlying22 4 size_nat4)) ?_
    simp only [Act.put, pu]
    refine mx_putm 0 26 _ _ rfl (0 + lo * 4) rfl rfl (natC cc) rfl (by exact size_nat) (by rw [nsC_size, natC_size]; omega) (natC_one _) (nsC d (yDv Q m d B IV R0 (k + 1)).2) hput ?_
    simp only [Act.put]
    refine mx_end ?_
    intro w2 hkw hrw hnew hdis
    have zrO : Row w2 (gO) (nsC d (yDv Q m d B IV R0 (k + 1)).2) 26 := hrw 0 (26, nsC d (yDv Q m d B IV R0 (k + 1)).2) rfl
    replace rB := hkw.row rB (by simp <;> omega)
    replace rR := hkw.row rR (by simp <;> omega)
    replace r10 := hkw.row r10 (by simp <;> omega)
    replace sb := sb.trans (hkw.below w.heap.size sb.size (by simp <;> omega))
    clear hkw hrw hnew hdis rO
    have rO := zrO
    clear zrO
    have hto := fun w' (hb : Below w.heap.size w w') (r : Row w' gR (nsC na (yDv Q m d B IV R0 k).1) 26) (q3 : Row w' gB (nsC nb B) 26) => takeOff_any (some ⟨g, 0, none⟩) (some ⟨gB, 0, none⟩) Q gR na lo m (na - lo) nb cc (yDv Q m d B IV R0 k).1 B gB 0 _ _ w' q.m q.pos (by omega) (by omega) hlon hccl (HL.out k).1 (fun _ => by omega) r ((nats_row q3 (fun i _ => HBl.out i)).take hmb) (fun X Y w2 hX hY hk => hmu X Y w2 hX hY (hb.trans (hk.below w.heap.size hb.size (by simp <;> omega)))) (fun X Y w2 hX hY hk => hsu X Y w2 hX hY (hb.trans (hk.below w.heap.size hb.size (by simp <;> omega))))
    rw [HRE.out] at hto
    (repeat ((fail_if_success with_reducible refine rg ?_); go_step))
    refine wp_region_pw ?_
    refine pw_mv (by rfl) rfl rfl ?_
    refine pw_mv (by rfl) rfl rfl ?_
    refine pw_mv (by rfl) rfl rfl ?_
    refine pw_mv (by rfl) rfl rfl ?_
    refine pw_mv (by rfl) rfl rfl ?_
    simp only [Act.put, pu]
    refine pw_value (by rfl) (.pointer (some ⟨gO, 0 + lo * 4, none⟩)) ((exec_index_s 22 _ _ rfl gO 0 d d rfl lo rfl (by omega) _ Tryz.underlying22 4 size_nat4)) ?_
    simp only [Act.put, pu]
    refine pw_loadm (by rfl) 26 _ rfl _ (0 + lo * 4) rfl rO.r (natC cc) hpO _ Tryz.underlying26 rfl size_nat ?_
    simp only [Act.put, pu]
    refine pw_callE (by rfl) 43 _ _ rfl Tryz.func43 (by kernel_rfl) #[.pointer (some ⟨g, 0, none⟩), .slice (some ⟨gR, 0 + lo * 4, none⟩) m (na - lo), .slice (some ⟨gB, 0, none⟩) m nb, .agg (natC cc)] rfl (hto _ sb rR rB) ?_
    have crR := rR.lt
    clear rR
    rintro _ z13007 ⟨rfl, rR, k⟩
    refine ⟨_, rfl, ?_⟩
    simp only [Act.put, pu]
    clear crR
    replace rO := k.row rO (by simp <;> omega)
    replace rB := k.row rB (by simp <;> omega)
    replace r10 := k.row r10 (by simp <;> omega)
    replace sb := sb.trans (k.below w.heap.size sb.size (by simp <;> omega))
    clear k
    refine pw_nil ?_
    (repeat ((fail_if_success with_reducible refine rg ?_); go_step))
    refine wp_region_pw ?_
    refine pw_value (by rfl) (.int .i64 ((k + 1 : Nat) : Int)) (exec_add_in _ _ _ _ rfl k 1 rfl rfl (by omega)) ?_
    refine pw_mv (by rfl) rfl rfl ?_
    simp only [Act.put, pu]
    refine pw_nil ?_
    go_wp2
    go_roundg x
    case measure => omega
    case rel => exact ⟨k + 1, by omega, rfl, rR, rO, rB, r10, sb⟩
   ·kernel_rfl
end Go.Proofs.YthnpeebnmommbaaGreat
/- What poly's Div answers, as lists: a is q times b, and r. -/
namespace Go.Proofs.YthnpeebnmommbaaGreat
open Go.RowKit
set_option linter.unusedVariables false
set_option linter.unusedSectionVars false
section
variable {Q : Nat} [NeZero Q]
end
end Go.Proofs.YthnpeebnmommbaaGreat
/- poly's Through. -/
namespace Go.Proofs.YthnpeebnmommbaaGreat
open Go.RowKit
set_option linter.unusedVariables false
set_option linter.unusedSectionVars false
set_option maxRecDepth 100000 in
set_option maxHeartbeats 2000000 in
theorem pgrp_any (v f : Option Addr) (P Q G : Nat) (r : Option Addr) (w : World) (h : KnAt w v P Q G r f) :
  Calls Tryz.prog 45 #[.pointer v] w fun e w' => e = .returned (.bool (!f.isNone)) ∧ Below w.heap.size w w' := by
 have hf := fun w' (hb : Below w.heap.size w w') => grpField_any v P Q G r f w' (h.below hb)
 go_enter Tryz.func45, Tryz.ntmps45
 have sb := sbmk w
 (repeat ((fail_if_success with_reducible refine rg ?_); go_step))
 refine wp_region_pw ?_
 refine pw_value (by rfl) (.bool false) (fun _ => rfl) ?_
 simp only [Act.put, pu]
 refine pw_nil ?_
 (repeat ((fail_if_success with_reducible refine rg ?_); go_step))
 refine wp_region_pw ?_
 refine pw_mv (by rfl) rfl rfl ?_
 simp only [Act.put, pu]
 refine pw_callB (by rfl) 61 _ _ rfl Tryz.func61 (by kernel_rfl) #[.pointer v] rfl _ (hf _ sb) ?_
 intro z1001 k
 simp only [Act.put, pu]
 replace sb := sb.trans (k.below w.heap.size sb.size (by simp <;> omega))
 clear k
 refine pw_value (by rfl) (.bool (!f.isNone)) (exec_neq_nilp _ _ _ _ rfl f rfl rfl ptr_ring8) ?_
 refine pw_as (by rfl) rfl rfl ?_
 simp only [Act.put, pu]
 refine pw_nil ?_
 go_wp2
 go_ret
 exact ⟨rfl, sb⟩
set_option maxRecDepth 100000 in
set_option maxHeartbeats 2000000 in
theorem thr_len (g gr gf P Q G : Nat) (ab ae : Option Addr) (n ca m ce : Nat) (w : World) (hnm : n ≠ m) (h : GrpAt w g gr gf P Q G) :
  Calls Tryz.prog 22 #[.pointer (some ⟨g, 0, none⟩), .slice ab n ca, .slice ae m ce] w fun e w' => e = .returned (.tuple #[.slice none 0 0, .int .i64 1]) ∧ Below w.heap.size w w' := by
 have hg := fun w' (hb : Below w.heap.size w w') => pgrp_any (some ⟨g, 0, none⟩) (some ⟨gf, 0, none⟩) P Q G (some ⟨gr, 0, none⟩) w' (h.below hb).kn
 go_enter Tryz.func22, Tryz.ntmps22
 have sb := sbmk w
 (repeat ((fail_if_success with_reducible refine rg ?_); go_step))
 refine wp_region_pw ?_
 refine pw_value (by rfl) (.slice none 0 0) ((fun _ => rfl)) ?_
 simp only [Act.put, pu]
 refine pw_value (by rfl) (.int .i64 0) (fun _ => rfl) ?_
 simp only [Act.put, pu]
 refine pw_nil ?_
 (repeat ((fail_if_success with_reducible refine rg ?_); go_step))
 refine wp_region_pw ?_
 refine pw_mv (by rfl) rfl rfl ?_
 simp only [Act.put, pu]
 refine pw_callB (by rfl) 45 _ _ rfl Tryz.func45 (by kernel_rfl) #[.pointer (some ⟨g, 0, none⟩)] rfl _ (hg _ sb) ?_
 intro z1001 k
 simp only [Act.put, pu]
 replace sb := sb.trans (k.below w.heap.size sb.size (by simp <;> omega))
 clear k
 refine pw_value (by rfl) (.bool false) (exec_not _ _ rfl true rfl) ?_
 refine pw_mv (by rfl) rfl rfl ?_
 refine pw_mv (by rfl) rfl rfl ?_
 simp only [Act.put, pu]
 refine pw_value (by rfl) (.int .i64 n) (exec_len_s 22 _ rfl (ab) (n) (ca) rfl sl_natsX) ?_
 refine pw_mv (by rfl) rfl rfl ?_
 simp only [Act.put, pu]
 refine pw_value (by rfl) (.int .i64 m) (exec_len_s 22 _ rfl (ae) (m) (ce) rfl sl_natsX) ?_
 simp only [Act.put, pu]
 refine pw_value (by rfl) (.bool true) (exec_neq_k .i64 _ _ _ _ rfl n m rfl rfl true (by rw [decide_eq_false (by omega)]; rfl)) ?_
 simp only [Act.put, pu]
 refine pw_pick (by rfl) false (v := .bool true) rfl rfl rfl ?_
 refine pw_mv (by rfl) rfl rfl ?_
 simp only [Act.put, pu]
 refine pw_skip (by rfl) ?_
 simp only [Act.put, pu]
 refine pw_skip (by rfl) ?_
 simp only [Act.put, pu]
 refine pw_skip (by rfl) ?_
 simp only [Act.put, pu]
 refine pw_pick (by rfl) true (v := .bool true) rfl rfl rfl ?_
 simp only [Act.put, pu]
 refine pw_nil ?_
 (repeat ((fail_if_success with_reducible refine rg ?_); go_step))
 refine wp_region_pw ?_
 refine pw_value (by rfl) (.slice none 0 0) ((fun _ => rfl)) ?_
 simp only [Act.put, pu]
 refine pw_value (by rfl) (.int .i64 1) (fun _ => rfl) ?_
 simp only [Act.put, pu]
 refine pw_nil ?_
 go_wp2
 go_ret2
 exact ⟨rfl, sb⟩
theorem built_one : Tryz.prog.built 26 [(0, .int .u64 1)] = some (natC 1) := by kernel_rfl
/-- The inverse by Q. -/
def ivF {Q : Nat} [NeZero Q] (x : Fin Q) : Fin Q := fi (invZ x.val Q)
theorem ivF_is {Q : Nat} [NeZero Q] (q : FdQ Q) (a : Fin Q) (h : a ≠ 0) : a * ivF a = 1 := by
 have h1 : a.val % Q ≠ 0 := by
  rw [Nat.mod_eq_of_lt a.isLt]
  exact fun e => h ((val_z a).1 e)
 have h2 := inv_1 q.pr h1
 have h3 : (fi (a.val * invZ a.val Q) : Fin Q) = fi 1 := (fi_eq _ _).2 (by rw [h2, Nat.mod_eq_of_lt (by have := q.pr.1; omega)])
 rw [fi_mul, fi_of] at h3
 exact h3
theorem lit1_pl {Q : Nat} [NeZero Q] {w : World} {g A : Nat} (r : Row w g (natC A) 26) (hA : A < 2 ^ 256) : PlA w (.slice (some ⟨g, 0, none⟩) 1 1) [(fi A : Fin Q)] := by
 exact (nats_one r hA).pl (by decide)
theorem lit2_pl {Q : Nat} [NeZero Q] {w : World} {g A B : Nat} (r : Row w g (natC A ++ natC B) 26) (hA : A < 2 ^ 256) (hB : B < 2 ^ 256) : PlA w (.slice (some ⟨g, 0, none⟩) 2 2) [(fi A : Fin Q), fi B] := by
 exact (nats_two r hA hB).pl (by decide)
set_option maxRecDepth 100000 in
set_option maxHeartbeats 2000000 in
theorem thr_any (g gr gf P Q G n ca ce : Nat) [NeZero Q] (ab ae : Option Addr) (X Y : Nat → Nat) (gb ob ge oe : Nat) (bcs ecs : Array Value) (tb te : TypeId) (w : World) (q : FdQ Q) (hn : n ≤ 32) (hna : NatsAt w ab n X gb ob bcs tb) (hnb : NatsAt w ae n Y ge oe ecs te) (h : GrpAt w g gr gf P Q G) :
  Calls Tryz.prog 22 #[.pointer (some ⟨g, 0, none⟩), .slice ab n ca, .slice ae n ce] w fun e w' => ∃ vf z, e = .returned (.tuple #[vf, .int .i64 z]) ∧
   ((z = 0 ∧ (∀ k, k < n → pev (fi (X k)) (tGo (fun i => (fi (X i) : Fin Q)) k) ≠ 0) ∧ PlAt w' vf (tTh ivF (fun i => (fi (X i) : Fin Q)) (fun i => (fi (Y i) : Fin Q)) n)) ∨ (z = 1 ∧ vf = .slice none 0 0 ∧ ∃ k, k < n ∧ pev (fi (X k)) (tGo (fun i => (fi (X i) : Fin Q)) k) = 0)) ∧ Below w.heap.size w w' := by
 have HB : Hid (NatsAt w ab n X gb ob bcs tb) := hna
 have HE : Hid (NatsAt w ae n Y ge oe ecs te) := hnb
 have HXl : Hid (∀ k, k < n → X k < 2 ^ 256) := hna.lt
 have HYl : Hid (∀ k, k < n → Y k < 2 ^ 256) := hnb.lt
 have HQ : Hid (∀ x : Fin Q, x.val < 2 ^ 256) := fun x => Nat.lt_trans x.isLt q.m
 clear hna hnb
 obtain ⟨ie, hie, hz, hsz, _⟩ := info_nat'
 have hs1 : ¬ 1 * ie.size > 2 ^ 24 := by rw [hsz]; decide
 have hs2 : ¬ 1 * ie.size = 0 := by rw [hsz]; decide
 have hs3 : ¬ 2 * ie.size > 2 ^ 24 := by rw [hsz]; decide
 have hs4 : ¬ 2 * ie.size = 0 := by rw [hsz]; decide
 have hl1 := fun A => lit_one A ie.size hsz
 have hl2 := fun A B => lit_two A B ie.size hsz
 have hg := fun w' (hb : Below w.heap.size w w') => pgrp_any (some ⟨g, 0, none⟩) (some ⟨gf, 0, none⟩) P Q G (some ⟨gr, 0, none⟩) w' (h.below hb).kn
 go_enter Tryz.func22, Tryz.ntmps22
 have sb := sbmk w
 (repeat ((fail_if_success with_reducible refine rg ?_); go_step))
 refine wp_region_pw ?_
 refine pw_value (by rfl) (.slice none 0 0) ((fun _ => rfl)) ?_
 simp only [Act.put, pu]
 refine pw_value (by rfl) (.int .i64 0) (fun _ => rfl) ?_
 simp only [Act.put, pu]
 refine pw_nil ?_
 (repeat ((fail_if_success with_reducible refine rg ?_); go_step))
 refine wp_region_pw ?_
 refine pw_mv (by rfl) rfl rfl ?_
 simp only [Act.put, pu]
 refine pw_callB (by rfl) 45 _ _ rfl Tryz.func45 (by kernel_rfl) #[.pointer (some ⟨g, 0, none⟩)] rfl _ (hg _ sb) ?_
 intro z1001 k
 simp only [Act.put, pu]
 replace sb := sb.trans (k.below w.heap.size sb.size (by simp <;> omega))
 clear k
 refine pw_value (by rfl) (.bool false) (exec_not _ _ rfl true rfl) ?_
 refine pw_mv (by rfl) rfl rfl ?_
 refine pw_mv (by rfl) rfl rfl ?_
 simp only [Act.put, pu]
 refine pw_value (by rfl) (.int .i64 n) (exec_len_s 22 _ rfl (ab) (n) (ca) rfl sl_natsX) ?_
 refine pw_mv (by rfl) rfl rfl ?_
 simp only [Act.put, pu]
 refine pw_value (by rfl) (.int .i64 n) (exec_len_s 22 _ rfl (ae) (n) (ce) rfl sl_natsX) ?_
 simp only [Act.put, pu]
 refine pw_value (by rfl) (.bool false) (exec_neq_k .i64 _ _ _ _ rfl n n rfl rfl false (by rw [decide_eq_true rfl]; rfl)) ?_
 simp only [Act.put, pu]
 refine pw_pick (by rfl) false (v := .bool false) rfl rfl rfl ?_
 refine pw_mv (by rfl) rfl rfl ?_
 refine pw_mv (by rfl) rfl rfl ?_
 simp only [Act.put, pu]
 refine pw_value (by rfl) (.int .i64 n) (exec_len_s 22 _ rfl (ab) (n) (ca) rfl sl_natsX) ?_
 simp only [Act.put, pu]
 refine pw_value (by rfl) (.bool false) (exec_gt_i _ _ _ _ rfl n 32 rfl rfl false (decide_eq_false (by omega))) ?_
 simp only [Act.put, pu]
 refine pw_pick (by rfl) false (v := .bool false) rfl rfl rfl ?_
 simp only [Act.put, pu]
 refine pw_nil ?_
 (repeat ((fail_if_success with_reducible refine rg ?_); go_step))
 refine wp_region_pw ?_
 refine pw_value (by rfl) (.slice none 0 0) ((fun _ => rfl)) ?_
 simp only [Act.put, pu]
 refine pw_nil ?_
 (repeat ((fail_if_success with_reducible refine rg ?_); go_step))
 refine wp_region_pw ?_
 refine pw_value (by rfl) (.agg (natC 1)) (exec_buildv _ [(0, .const (.int .u64 1))] rfl [(0, .int .u64 1)] rfl (natC 1) built_one) ?_
 simp only [Act.put, pu]
 refine pw_litr (by rfl) 22 26 1 _ rfl (natC 1) ie _ Tryz.underlying22 hie hz hs1 hs2 [(0, .agg (natC 1))] rfl (hl1 1) ?_
 intro gL z4001 n0 rL k
 simp only [Act.put, pu]
 have bL := Nat.le_trans sb.size n0
 clear n0
 replace sb := sb.trans (k.below w.heap.size sb.size (by simp <;> omega))
 clear k
 refine pw_as (by rfl) rfl rfl ?_
 simp only [Act.put, pu]
 refine pw_nil ?_
 have hgo : PlA z4001 (.slice (some ⟨gL, 0, none⟩) 1 1) (tGo (fun i => (fi (X i) : Fin Q)) 0) := lit1_pl rL (by decide)
 clear rL bL
 (repeat ((fail_if_success with_reducible refine rg ?_); go_step))
 refine wp_region_pw ?_
 refine pw_mv (by rfl) rfl rfl ?_
 simp only [Act.put, pu]
 refine pw_value (by rfl) (.int .i64 n) (exec_len_s 22 _ rfl (ab) (n) (ca) rfl sl_natsX) ?_
 simp only [Act.put, pu]
 refine pw_value (by rfl) (.int .i64 0) (fun _ => rfl) ?_
 simp only [Act.put, pu]
 refine pw_nil ?_
 go_wp2_with fail
 go_loopg [8, 9, 10, 11, 12, 32] n (fun x s8 s9 s10 s11 s12 s32 wr => ∃ k : Nat, ∃ vf vg : Value, k + x = n ∧ vf = s8 ∧ vg = s9 ∧ s32 = .int .i64 k ∧ PlAt wr vf (tTh ivF (fun i => (fi (X i) : Fin Q)) (fun i => (fi (Y i) : Fin Q)) k) ∧ PlA wr vg (tGo (fun i => (fi (X i) : Fin Q)) k) ∧ (∀ j, j < k → pev (fi (X j)) (tGo (fun i => (fi (X i) : Fin Q)) j) ≠ 0) ∧ Below w.heap.size w wr)
 case atStart => exact ⟨0, _, _, by omega, rfl, rfl, rfl, plAt_nil _, hgo, fun j hj => absurd hj (by omega), sb⟩
 case round =>
  clear hgo sb
  obtain ⟨k, vf, vg, hk, rfl, rfl, rfl, hf, hgo, hnz, sb⟩ := hrel
  cases gk with
  | zero =>
   obtain rfl : k = n := by omega
   clear hk
   have HNZ : Hid (∀ j, j < k → pev (fi (X j)) (tGo (fun i => (fi (X i) : Fin Q)) j) ≠ 0) := hnz
   clear hnz
   (repeat ((fail_if_success with_reducible refine rg ?_); go_step))
   refine wp_region_pw ?_
   refine pw_value (by rfl) (.bool false) (exec_lt_b _ _ _ _ rfl k k rfl rfl false (decide_eq_false (Int.lt_irrefl _))) ?_
   simp only [Act.put, pu]
   refine pw_nil ?_
   (repeat ((fail_if_success with_reducible refine rg ?_); go_step))
   refine wp_region_pw ?_
   refine pw_mv (by rfl) rfl rfl ?_
   refine pw_as (by rfl) rfl rfl ?_
   simp only [Act.put, pu]
   refine pw_value (by rfl) (.int .i64 0) (fun _ => rfl) ?_
   simp only [Act.put, pu]
   refine pw_nil ?_
   go_wp2
   go_ret2
   exact ⟨_, _, rfl, .inl ⟨rfl, HNZ.out, hf⟩, sb⟩
  | succ x =>
   have hlt : k < n := by omega
   have HNZ : Hid (∀ j, j < k → pev (fi (X j)) (tGo (fun i => (fi (X i) : Fin Q)) j) ≠ 0) := hnz
   clear hnz
   obtain ⟨T, hT⟩ : ∃ T, pev (fi (X k)) (tGo (fun i => (fi (X i) : Fin Q)) k) = T := ⟨_, rfl⟩
   have hfl := tTh_length ivF (fun i => (fi (X i) : Fin Q)) (fun i => (fi (Y i) : Fin Q)) k
   have hev := fun w' (hb : Below w.heap.size w w') (hg : PlA w' vg (tGo (fun i => (fi (X i) : Fin Q)) k)) => evalQ vg _ (X k) (HXl.out k hlt) q (h.below hb) hg
   rw [hT] at hev
   have het := (HQ.out T)
   (repeat ((fail_if_success with_reducible refine rg ?_); go_step))
   refine wp_region_pw ?_
   refine pw_value (by rfl) (.bool true) (exec_lt_b _ _ _ _ rfl k n rfl rfl true (decide_eq_true (by omega))) ?_
   simp only [Act.put, pu]
   refine pw_nil ?_
   (repeat ((fail_if_success with_reducible refine rg ?_); go_step))
   refine wp_region_pw ?_
   refine pw_mv (by rfl) rfl rfl ?_
   refine pw_as (by rfl) rfl rfl ?_
   simp only [Act.put, pu]
   refine pw_nil ?_
   obtain h1 | ⟨rfl, rB, hbt⟩ := (HB.out.below sb).at'
   ·exact absurd h1 (by omega)
   have hbt' := hbt k hlt
   clear hbt
   (repeat ((fail_if_success with_reducible refine rg ?_); go_step))
   have cb := below_self sb
   refine wp_region_pw ?_
   refine pw_mv (by rfl) rfl rfl ?_
   refine pw_mv (by rfl) rfl rfl ?_
   refine pw_mv (by rfl) rfl rfl ?_
   refine pw_mv (by rfl) rfl rfl ?_
   simp only [Act.put, pu]
   refine pw_value (by rfl) (.pointer (some ⟨gb, ob + k * 4, none⟩)) ((exec_index_s 22 _ _ rfl gb ob (n) (ca) rfl (k) rfl (hlt) _ Tryz.underlying22 4 size_nat4)) ?_
   simp only [Act.put, pu]
   refine pw_loadm (by rfl) 26 _ rfl _ (ob + k * 4) rfl rB (natC (X k)) hbt' _ Tryz.underlying26 rfl size_nat ?_
   simp only [Act.put, pu]
   refine pw_callB (by rfl) 12 _ _ rfl Tryz.func12 (by kernel_rfl) #[.pointer (some ⟨g, 0, none⟩), vg, .agg (natC (X k))] rfl _ (hev _ sb (hgo.below cb)) ?_
   intro z8006 k
   simp only [Act.put, pu]
   replace cb := cb.trans (k.below _ cb.size (by simp <;> omega))
   replace sb := sb.trans (k.below w.heap.size sb.size (by simp <;> omega))
   clear k
   refine pw_new (by rfl) 26 rfl _ zero_nat ?_
   intro g11 z8007 n0 r11 k
   simp only [Act.put, pu]
   have bcbx11 := Nat.le_trans cb.size n0
   have b11 := Nat.le_trans sb.size n0
   clear n0
   replace cb := cb.trans (k.below _ cb.size (by simp <;> omega))
   replace sb := sb.trans (k.below w.heap.size sb.size (by simp <;> omega))
   clear k
   refine pw_put (by rfl) 26 _ _ rfl _ rfl r11 (natC T.val) rfl (by exact size_nat) (by simp only [natC_size]) (natC_one _) ?_
   clear r11
   intro z8008 r11 k
   simp only [Act.put]
   replace cb := cb.trans (k.below _ cb.size (by simp <;> omega))
   replace sb := sb.trans (k.below w.heap.size sb.size (by simp <;> omega))
   clear k
   refine pw_nil ?_
   replace hf := hf.below cb
   replace hgo := hgo.below cb
   clear cb
   by_cases hz0 : T = 0
   ·have hd : decide (T.val % 2 ^ 256 = 0 % 2 ^ 256) = true := by rw [hz0]; rfl
    have HZ : Hid (∃ k, k < n ∧ pev (fi (X k)) (tGo (fun i => (fi (X i) : Fin Q)) k) = 0) := ⟨k, hlt, hT.trans hz0⟩
    clear hT hz0
    (repeat ((fail_if_success with_reducible refine rg ?_); go_step))
    refine wp_region_pw ?_
    refine pw_loadm (by rfl) 26 _ rfl _ 0 rfl r11.r _ (part_all _) _ Tryz.underlying26 rfl size_nat ?_
    simp only [Act.put, pu]
    refine pw_value (by rfl) (.agg (natC 0)) (exec_build0 _ rfl _ built_nat) ?_
    simp only [Act.put, pu]
    refine pw_value (by rfl) (.bool true) (fun w' => (exec_eql_nat _ _ _ rfl T.val 0 rfl rfl w').trans (by rw [hd])) ?_
    simp only [Act.put, pu]
    refine pw_nil ?_
    (repeat ((fail_if_success with_reducible refine rg ?_); go_step))
    refine wp_region_pw ?_
    refine pw_value (by rfl) (.slice none 0 0) ((fun _ => rfl)) ?_
    simp only [Act.put, pu]
    refine pw_value (by rfl) (.int .i64 1) (fun _ => rfl) ?_
    simp only [Act.put, pu]
    refine pw_nil ?_
    go_wp2
    go_ret2
    exact ⟨_, _, rfl, .inr ⟨rfl, rfl, HZ.out⟩, sb⟩
   ·have hd : decide (T.val % 2 ^ 256 = 0 % 2 ^ 256) = false := by
     rw [Nat.mod_eq_of_lt het]
     exact decide_eq_false fun e => hz0 ((val_z T).1 e)
    have HNZ' : Hid (∀ j, j < k + 1 → pev (fi (X j)) (tGo (fun i => (fi (X i) : Fin Q)) j) ≠ 0) := fun j hj => by
     by_cases e : j = k
     ·rw [e, hT]; exact hz0
     ·exact HNZ.out j (by omega)
    clear HNZ hz0
    obtain ⟨U, hU⟩ : ∃ U, pev (fi (X k)) (tTh ivF (fun i => (fi (X i) : Fin Q)) (fun i => (fi (Y i) : Fin Q)) k) = U := ⟨_, rfl⟩
    have hev2 := fun w' (hb : Below w.heap.size w w') (hf : PlAt w' vf (tTh ivF (fun i => (fi (X i) : Fin Q)) (fun i => (fi (Y i) : Fin Q)) k)) => evalQ vf _ (X k) (HXl.out k hlt) q (h.below hb) (hf.arg (by omega))
    rw [hU] at hev2
    obtain ⟨MI, hMI⟩ : ∃ MI, sbN (Y k) U.val Q = MI := ⟨_, rfl⟩
    have hMl : MI < 2 ^ 256 := by rw [← hMI]; exact Nat.lt_trans (Nat.mod_lt _ q.pos) q.m
    have hsu := fun w' (hb : Below w.heap.size w w') => fSub_ok (Y k) U.val g gr gf P Q G w' (HYl.out k hlt) (HQ.out U) q (h.below hb)
    rw [hMI] at hsu
    obtain ⟨IV, hIV⟩ : ∃ IV, invZ T.val Q = IV := ⟨_, rfl⟩
    have hIl : IV < 2 ^ 256 := by rw [← hIV]; exact Nat.lt_trans (inv_lt _ _ q.pr) q.m
    have hiv := fun w' (hb : Below w.heap.size w w') => fInv_ok T.val g gr gf P Q G w' het q (h.below hb)
    rw [hIV] at hiv
    obtain ⟨CC, hCC⟩ : ∃ CC, MI * IV % Q = CC := ⟨_, rfl⟩
    have hCl : CC < 2 ^ 256 := by rw [← hCC]; exact Nat.lt_trans (Nat.mod_lt _ q.pos) q.m
    have hmu := fun w' (hb : Below w.heap.size w w') => fMul_ok MI IV g gr gf P Q G w' hMl hIl q (h.below hb)
    rw [hCC] at hmu
    have hcf : (fi CC : Fin Q) = ((fi (Y k) - pev (fi (X k)) (tTh ivF (fun i => (fi (X i) : Fin Q)) (fun i => (fi (Y i) : Fin Q)) k)) * ivF (pev (fi (X k)) (tGo (fun i => (fi (X i) : Fin Q)) k))) := by
     rw [hU, hT]
     unfold ivF
     rw [hIV, ← hCC, fi_mod, fi_mul, ← hMI]
     unfold sbN
     rw [fi_sub, fi_of]
    obtain ⟨SX, hSX⟩ : ∃ SX, sbN 0 (X k) Q = SX := ⟨_, rfl⟩
    have hSl : SX < 2 ^ 256 := by rw [← hSX]; exact Nat.lt_trans (Nat.mod_lt _ q.pos) q.m
    have hs0 := fun w' (hb : Below w.heap.size w w') => fSub_ok 0 (X k) g gr gf P Q G w' (by decide) (HXl.out k hlt) q (h.below hb)
    rw [hSX] at hs0
    have hsf : (fi SX : Fin Q) = 0 - fi (X k) := by
     rw [← hSX]
     unfold sbN
     rw [fi_sub]
     rfl
    have hgl := tGo_length (fun i => (fi (X i) : Fin Q)) k
    have hpm := fun w' g2 (hb : Below w.heap.size w w') (hg : PlA w' vg (tGo (fun i => (fi (X i) : Fin Q)) k)) (r : Row w' g2 (natC CC) 26) => mulQ vg (.slice (some ⟨g2, 0, none⟩) 1 1) _ [fi CC] q (h.below hb) hg (lit1_pl r hCl)
    have hpa := fun w' (v2 : Value) (hb : Below w.heap.size w w') (hf : PlAt w' vf (tTh ivF (fun i => (fi (X i) : Fin Q)) (fun i => (fi (Y i) : Fin Q)) k)) (h2 : PlAt w' v2 (pmul (tGo (fun i => (fi (X i) : Fin Q)) k) [fi CC])) => addQ vf v2 _ _ q (h.below hb) (hf.arg (by omega)) (h2.arg (by have := pmul_length (tGo (fun i => (fi (X i) : Fin Q)) k) [(fi CC : Fin Q)]; simp only [List.length_cons, List.length_nil] at this; omega))
    have hpg := fun w' g2 (hb : Below w.heap.size w w') (hg : PlA w' vg (tGo (fun i => (fi (X i) : Fin Q)) k)) (r : Row w' g2 (natC SX ++ natC 1) 26) => mulQ vg (.slice (some ⟨g2, 0, none⟩) 2 2) _ [fi SX, fi 1] q (h.below hb) hg (lit2_pl r hSl (by decide))
    have hthr : psum (tTh ivF (fun i => (fi (X i) : Fin Q)) (fun i => (fi (Y i) : Fin Q)) k) (pmul (tGo (fun i => (fi (X i) : Fin Q)) k) [fi CC]) = tTh ivF (fun i => (fi (X i) : Fin Q)) (fun i => (fi (Y i) : Fin Q)) (k + 1) := by rw [hcf]; rfl
    have hgor : pmul (tGo (fun i => (fi (X i) : Fin Q)) k) [fi SX, fi 1] = tGo (fun i => (fi (X i) : Fin Q)) (k + 1) := by rw [hsf]; rfl
    rw [hthr] at hpa
    rw [hgor] at hpg
    have hgl2 := tGo_length (fun i => (fi (X i) : Fin Q)) (k + 1)
    clear hthr hgor hcf hsf hMI hIV hCC hSX hT hU hev
    obtain h1 | ⟨rfl, rE, het2⟩ := (HE.out.below sb).at'
    ·exact absurd h1 (by omega)
    clear rE rB
    have het2' := het2 k hlt
    clear het2
    (repeat ((fail_if_success with_reducible refine rg ?_); go_step))
    refine wp_region_pw ?_
    refine pw_loadm (by rfl) 26 _ rfl _ 0 rfl r11.r _ (part_all _) _ Tryz.underlying26 rfl size_nat ?_
    simp only [Act.put, pu]
    refine pw_value (by rfl) (.agg (natC 0)) (exec_build0 _ rfl _ built_nat) ?_
    simp only [Act.put, pu]
    refine pw_value (by rfl) (.bool false) (fun w' => (exec_eql_nat _ _ _ rfl T.val 0 rfl rfl w').trans (by rw [hd])) ?_
    simp only [Act.put, pu]
    refine pw_nil ?_
    obtain h1 | ⟨_, rB, _⟩ := (HB.out.below sb).at'
    ·exact absurd h1 (by omega)
    obtain h1 | ⟨_, rE, _⟩ := (HE.out.below sb).at'
    ·exact absurd h1 (by omega)
    (repeat ((fail_if_success with_reducible refine rg ?_); go_step))
    apply wp_region_mix (by kernel_rfl) [] [_, _, _, _, _, _, _, _, _, _, _, _, _, _, _] trivial List.nodup_nil
    ·intro p
     refine mx_move rfl rfl ?_
     refine mx_move rfl rfl ?_
     refine mx_move rfl rfl ?_
     simp only [Act.put, pu]
     refine mx_val (.pointer (some ⟨ge, oe + k * 4, none⟩)) ((exec_index_s 22 _ _ rfl ge oe (n) (ce) rfl (k) rfl (hlt) _ Tryz.underlying22 4 size_nat4)) ?_
     simp only [Act.put, pu]
     refine mx_loadmR 26 _ rfl _ (oe + k * 4) rfl rE (by simp <;> omega) (natC (Y k)) het2' _ Tryz.underlying26 rfl size_nat ?_
     refine mx_move rfl rfl ?_
     refine mx_move rfl rfl ?_
     refine mx_move rfl rfl ?_
     refine mx_move rfl rfl ?_
     simp only [Act.put, pu]
     refine mx_val (.pointer (some ⟨gb, ob + k * 4, none⟩)) ((exec_index_s 22 _ _ rfl gb ob (n) (ca) rfl (k) rfl (hlt) _ Tryz.underlying22 4 size_nat4)) ?_
     simp only [Act.put, pu]
     refine mx_loadmR 26 _ rfl _ (ob + k * 4) rfl rB (by simp <;> omega) (natC (X k)) hbt' _ Tryz.underlying26 rfl size_nat ?_
     simp only [Act.put, pu]
     refine mx_callK 12 _ _ rfl Tryz.func12 (by kernel_rfl) #[.pointer (some ⟨g, 0, none⟩), vf, .agg (natC (X k))] rfl _ (fun w' hk => hev2 w' (sb.trans (hk.below w.heap.size sb.size (by simp <;> omega))) (hf.below hk.nil)) ?_
     simp only [Act.put, pu]
     refine mx_callK 46 _ _ rfl Tryz.func46 (by kernel_rfl) #[.pointer (some ⟨g, 0, none⟩), .agg (natC (Y k)), .agg (natC U.val)] rfl _ (fun w' hk => hsu w' (sb.trans (hk.below w.heap.size sb.size (by simp <;> omega)))) ?_
     simp only [Act.put, pu]
     refine mx_new 26 rfl _ zero_nat ?_
     simp only [Act.put, pu]
     refine mx_put 27 26 _ _ rfl rfl rfl (natC MI) rfl (by exact size_nat) (by simp only [natC_size]) (natC_one _) ?_
     simp only [Act.put]
     refine mx_end ?_
     intro w2 hkw hrw hnew hdis
     have r12 : Row w2 (p 13) (natC MI) 26 := hrw 27 (26, natC MI) rfl
     have hp13 := Nat.le_trans sb.size (hnew 13 rfl)
     have d11x12 := Nat.lt_of_lt_of_le r11.lt (hnew 13 rfl)
     replace r11 := hkw.row r11 (by simp)
     replace hf := hf.below hkw.nil
     replace hgo := hgo.below hkw.nil
     replace sb := sb.trans (hkw.below w.heap.size sb.size (by simp))
     clear hkw hrw hnew hdis rB rE
     generalize p 13 = g12 at *
     (repeat ((fail_if_success with_reducible refine rg ?_); go_step))
     refine wp_region_ewb (by kernel_rfl) [] [(0, false), (1, false), (2, false), (3, false), (4, false), (5, false), (6, false), (7, false), (8, false), (9, false), (10, true), (11, true), (12, true), (13, false)] ?_ (by kernel_rfl)
     have or11 := r11
     have or12 := r12
     have cb := below_self sb
     have osb := sb
     refine ew_mv (by rfl) rfl rfl ?_
     refine ew_mv (by rfl) rfl rfl ?_
     refine ew_mv (by rfl) rfl rfl ?_
     refine ew_mv (by rfl) rfl rfl ?_
     refine ew_mv (by rfl) rfl rfl ?_
     simp only [Act.put, pu]
     refine ew_loadm (by rfl) 26 _ rfl _ 0 rfl (fun _ hb => (or12.belowAll hb).r) _ (part_all _) _ Tryz.underlying26 rfl size_nat ?_
     refine ew_mv (by rfl) rfl rfl ?_
     simp only [Act.put, pu]
     refine ew_loadm (by rfl) 26 _ rfl _ 0 rfl (fun _ hb => (or11.belowAll hb).r) _ (part_all _) _ Tryz.underlying26 rfl size_nat ?_
     simp only [Act.put, pu]
     refine ew_call (by rfl) 42 _ _ rfl Tryz.func42 (by kernel_rfl) #[.pointer (some ⟨g, 0, none⟩), .agg (natC T.val)] rfl _ (fun w' hb => hiv w' (below_on osb (Nat.le_refl _) hb)) ?_
     simp only [Act.put, pu]
     refine ew_call (by rfl) 33 _ _ rfl Tryz.func33 (by kernel_rfl) #[.pointer (some ⟨g, 0, none⟩), .agg (natC MI), .agg (natC IV)] rfl _ (fun w' hb => hmu w' (below_on osb (Nat.le_refl _) hb)) ?_
     simp only [Act.put, pu]
     refine ew_litr (by rfl) 22 26 1 _ rfl (natC CC) ie _ Tryz.underlying22 hie hz hs1 hs2 [(0, .agg (natC CC))] rfl (hl1 CC) ?_
     intro wa10 hqb gC wb10 n0 rC hb
     refine ⟨fun _ => below_on (below_on cb (Nat.le_refl _) hqb) (Nat.le_refl _) hb, ?_⟩
     simp only [Act.put, pu]
     replace hf := hf.below hqb
     replace hgo := hgo.below hqb
     replace r11 := r11.belowAll hqb
     replace r12 := r12.belowAll hqb
     replace sb := below_on sb (Nat.le_refl _) hqb
     replace cb := below_on cb (Nat.le_refl _) hqb
     have d11xC := Nat.lt_of_lt_of_le r11.lt n0
     have d12xC := Nat.lt_of_lt_of_le r12.lt n0
     have bC := Nat.le_trans sb.size n0
     replace hf := hf.below hb
     replace hgo := hgo.below hb
     replace r11 := r11.belowAll hb
     replace r12 := r12.belowAll hb
     replace sb := below_on sb (Nat.le_refl _) hb
     replace cb := below_on cb (Nat.le_refl _) hb
     clear hqb hb n0
     refine ew_callE (by rfl) 18 _ _ rfl Tryz.func18 (by kernel_rfl) #[.pointer (some ⟨g, 0, none⟩), vg, .slice (some ⟨gC, 0, none⟩) 1 1] rfl ?_
     intro wa11 hqb
     replace hf := hf.below hqb
     replace hgo := hgo.below hqb
     replace r11 := r11.belowAll hqb
     replace r12 := r12.belowAll hqb
     replace rC := rC.belowAll hqb
     replace sb := below_on sb (Nat.le_refl _) hqb
     replace cb := below_on cb (Nat.le_refl _) hqb
     clear hqb
     refine (hpm _ gC sb hgo rC).mono ?_
     rintro _ wb11 ⟨vm, rfl, hm, hb⟩
     refine ⟨_, rfl, fun _ => below_on cb (Nat.le_refl _) hb, ?_⟩
     simp only [Act.put, pu]
     replace hf := hf.below hb
     replace hgo := hgo.below hb
     replace r11 := r11.belowAll hb
     replace r12 := r12.belowAll hb
     replace rC := rC.belowAll hb
     replace sb := below_on sb (Nat.le_refl _) hb
     replace cb := below_on cb (Nat.le_refl _) hb
     clear hb
     refine ew_callE (by rfl) 16 _ _ rfl Tryz.func16 (by kernel_rfl) #[.pointer (some ⟨g, 0, none⟩), vf, vm] rfl ?_
     intro wa12 hqb
     replace hf := hf.below hqb
     replace hgo := hgo.below hqb
     replace r11 := r11.belowAll hqb
     replace r12 := r12.belowAll hqb
     replace rC := rC.belowAll hqb
     replace hm := hm.below hqb
     replace sb := below_on sb (Nat.le_refl _) hqb
     replace cb := below_on cb (Nat.le_refl _) hqb
     clear hqb
     refine (hpa _ vm sb hf hm).mono ?_
     rintro _ wb12 ⟨vn, rfl, hn2, hb⟩
     refine ⟨_, rfl, fun _ => below_on cb (Nat.le_refl _) hb, ?_⟩
     simp only [Act.put, pu]
     replace hf := hf.below hb
     replace hgo := hgo.below hb
     replace r11 := r11.belowAll hb
     replace r12 := r12.belowAll hb
     replace rC := rC.belowAll hb
     replace hm := hm.below hb
     replace sb := below_on sb (Nat.le_refl _) hb
     replace cb := below_on cb (Nat.le_refl _) hb
     clear hb
     refine ew_as (by rfl) rfl rfl ?_
     simp only [Act.put, pu]
     refine ew_nil ?_
     intro wz hqb
     replace hf := hf.below hqb
     replace hgo := hgo.below hqb
     replace r11 := r11.belowAll hqb
     replace r12 := r12.belowAll hqb
     replace rC := rC.belowAll hqb
     replace hm := hm.below hqb
     replace hn2 := hn2.below hqb
     replace sb := below_on sb (Nat.le_refl _) hqb
     clear hqb cb osb or11 or12
     obtain h1 | ⟨_, rB, _⟩ := (HB.out.below sb).at'
     ·exact absurd h1 (by omega)
     (repeat ((fail_if_success with_reducible refine rg ?_); go_step))
     refine wp_region_pw ?_
     refine pw_mv (by rfl) rfl rfl ?_
     refine pw_mv (by rfl) rfl rfl ?_
     refine pw_mv (by rfl) rfl rfl ?_
     simp only [Act.put, pu]
     refine pw_value (by rfl) (.agg (natC 0)) (exec_build0 _ rfl _ built_nat) ?_
     refine pw_mv (by rfl) rfl rfl ?_
     refine pw_mv (by rfl) rfl rfl ?_
     simp only [Act.put, pu]
     refine pw_value (by rfl) (.pointer (some ⟨gb, ob + k * 4, none⟩)) ((exec_index_s 22 _ _ rfl gb ob (n) (ca) rfl (k) rfl (hlt) _ Tryz.underlying22 4 size_nat4)) ?_
     simp only [Act.put, pu]
     refine pw_loadm (by rfl) 26 _ rfl _ (ob + k * 4) rfl rB (natC (X k)) hbt' _ Tryz.underlying26 rfl size_nat ?_
     simp only [Act.put, pu]
     refine pw_callB (by rfl) 46 _ _ rfl Tryz.func46 (by kernel_rfl) #[.pointer (some ⟨g, 0, none⟩), .agg (natC 0), .agg (natC (X k))] rfl _ (hs0 _ sb) ?_
     intro z13008 k
     simp only [Act.put, pu]
     replace hgo := hgo.below k.nil
     replace hn2 := hn2.below k.nil
     replace sb := sb.trans (k.below w.heap.size sb.size (by simp <;> omega))
     clear k
     refine pw_value (by rfl) (.agg (natC 1)) (exec_buildv _ [(0, .const (.int .u64 1))] rfl [(0, .int .u64 1)] rfl (natC 1) built_one) ?_
     simp only [Act.put, pu]
     refine pw_litr (by rfl) 22 26 2 _ rfl (natC SX ++ natC 1) ie _ Tryz.underlying22 hie hz hs3 hs4 [(0, .agg (natC SX)), (1, .agg (natC 1))] rfl (hl2 SX 1) ?_
     intro gL z13010 n0 rL k
     simp only [Act.put, pu]
     have bL := Nat.le_trans sb.size n0
     clear n0
     replace hgo := hgo.below k.nil
     replace hn2 := hn2.below k.nil
     replace sb := sb.trans (k.below w.heap.size sb.size (by simp <;> omega))
     clear k
     refine pw_callE (by rfl) 18 _ _ rfl Tryz.func18 (by kernel_rfl) #[.pointer (some ⟨g, 0, none⟩), vg, .slice (some ⟨gL, 0, none⟩) 2 2] rfl (hpg _ gL sb hgo rL) ?_
     rintro _ z13011 ⟨vh, rfl, hh, hb⟩
     refine ⟨_, rfl, ?_⟩
     simp only [Act.put, pu]
     have k := Kept.ofBelow hb
     clear hb
     replace hgo := hgo.below k.nil
     replace hn2 := hn2.below k.nil
     replace rL := k.row rL (by simp <;> omega)
     replace sb := sb.trans (k.below w.heap.size sb.size (by simp <;> omega))
     clear k
     refine pw_as (by rfl) rfl rfl ?_
     simp only [Act.put, pu]
     refine pw_nil ?_
     (repeat ((fail_if_success with_reducible refine rg ?_); go_step))
     refine wp_region_pw ?_
     refine pw_value (by rfl) (.int .i64 ((k + 1 : Nat) : Int)) (exec_add_in _ _ _ _ rfl k 1 rfl rfl (by omega)) ?_
     refine pw_mv (by rfl) rfl rfl ?_
     simp only [Act.put, pu]
     refine pw_nil ?_
     go_wp2
     go_roundg x
     case measure => omega
     case rel => exact ⟨k + 1, _, _, by omega, rfl, rfl, rfl, hn2, hh.arg (by omega), HNZ'.out, sb⟩
    ·kernel_rfl
end Go.Proofs.YthnpeebnmommbaaGreat
