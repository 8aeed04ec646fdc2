/- poly's takeOff and Div. -/
import Derived.Test.YthnpeebnmommbaaPyPl
import Derived.OwnWalk
namespace Go.Proofs.Ythnpeebnmommbaa
open Go.RowKit
set_option linter.unusedVariables false
theorem y_part {P : Program} {o : Oper} {ρ : Operand → Value} (t : TypeId) (x lo hi : Operand) (ho : o.op = .slice t x (some lo) (some hi) none) (hu : P.underlying t = some (.slice (P.elem t))) (z : Nat) (hz : ∀ w, (sizeOf (P.elem t)).run P w = .ok z w) (g off n c l h : Nat) (hx : ρ x = .slice (some ⟨g, off, none⟩) n c) (hl : ρ lo = .int .i64 l) (hh : ρ hi = .int .i64 h) (h1 : l ≤ h) (h2 : h ≤ c) (h3 : l < c) (w : World) :
  (execOp ρ o).run P w = .ok (.value (.slice (some ⟨g, off + l * z, none⟩) (h - l) (c - l))) w := by
 have hr : (Instr.sliceAt t (.slice (some ⟨g, off, none⟩) n c) (some (.int .i64 l)) (some (.int .i64 h)) none).run P w = .ok (.slice (some ⟨g, off + l * z, none⟩) (h - l) (c - l)) w := by
  rw [run_sliceAt_slice w t _ _ _ _ hu, run_slice_lh w t _ n c hu .i64 .i64 l h (by omega) (by omega) (by omega), hz, Result.andThen_ok, Int.toNat_natCast, Int.toNat_natCast]
  unfold sliced
  rw [if_neg (by omega)]
  simp [Addr.add]
 unfold execOp
 simp only [ho, hx, hl, hh, Option.map_some, Option.map_none, Sem.run_bind, hr, Result.andThen_ok]
 rfl
/-- What takeOff leaves behind k steps. -/
def yTk (q : Nat) (lo : Nat) (B : Nat → Nat) (c : Nat) (R : Nat → Nat) (k i : Nat) : Nat := if lo ≤ i ∧ i < lo + k then sbN (R i) (B (i - lo) * c % q) q else R i
theorem yTk_0 (q lo : Nat) (B : Nat → Nat) (c : Nat) (R : Nat → Nat) : yTk q lo B c R 0 = R := funext fun i => if_neg (by omega)
set_option maxRecDepth 100000 in
set_option maxHeartbeats 2000000 in
theorem takeOff_any (v ae : Option Addr) (Q gR na lo m cf ce c : Nat) (R B : Nat → Nat) (ge oe : Nat) (ecs : Array Value) (te : TypeId) (w : World) (hQ : Q < 2 ^ 256) (h0 : 0 < Q) (hm : m ≤ 4000) (hna : na ≤ 4000) (hlo : lo + m ≤ na) (hc : c < 2 ^ 256) (hR : ∀ i, R i < Q) (hge : m ≠ 0 → ge ≠ gR)
  (rR : Row w gR (nsC na R) 32) (hnb : NatsAt w ae m B ge oe ecs te) (hmu : ∀ A B w', A < 2 ^ 256 → B < 2 ^ 256 → Kept [gR] w w' → Calls Try.prog 27 #[.pointer v, .agg (natC A), .agg (natC B)] w' fun e w2 => e = .returned (.agg (natC (A * B % Q))) ∧ Below w'.heap.size w' w2) (hsu : ∀ A B w', A < 2 ^ 256 → B < 2 ^ 256 → Kept [gR] w w' → Calls Try.prog 29 #[.pointer v, .agg (natC A), .agg (natC B)] w' fun e w2 => e = .returned (.agg (natC (sbN A B Q))) ∧ Below w'.heap.size w' w2) :
  Calls Try.prog 36 #[.pointer v, .slice (some ⟨gR, 0 + lo * 4, none⟩) m cf, .slice ae m ce, .agg (natC c)] w fun e w' => e = .returned (.tuple #[]) ∧ Row w' gR (nsC na (yTk Q lo B c R m)) 32 ∧ Kept [gR] w w' := by
 have HE : Hid (NatsAt w ae m B ge oe ecs te) := hnb
 have HR : Hid (∀ k i, yTk Q lo B c R k i < 2 ^ 256) := fun k i => by
  unfold yTk
  split
  ·exact Nat.lt_trans (Nat.mod_lt _ h0) hQ
  ·exact Nat.lt_trans (hR i) hQ
 have HC : Hid (c < 2 ^ 256) := hc
 have hltR := rR.lt
 have sk := Kept.refl [gR] w
 clear hnb hR hc
 go_enter Try.func36, Try.ntmps36
 (repeat ((fail_if_success with_reducible refine rg ?_); go_step))
 refine wp_region_pw ?_
 refine pw_boxr (by rfl) 32 _ rfl (_) rfl ?_
 intro g7 z0 n0 r7 k
 simp only [Act.put, pu]
 have dRx7 := Nat.lt_of_lt_of_le rR.lt n0
 have b7 := Nat.le_trans sk.size n0
 clear n0
 replace rR := k.row rR (by simp <;> omega)
 replace sk := sk.trans k (by simp <;> omega)
 clear k
 refine pw_nil ?_
 (repeat ((fail_if_success with_reducible refine rg ?_); go_step))
 refine wp_region_pw ?_
 refine pw_mv (by rfl) rfl rfl ?_
 simp only [Act.put, pu]
 refine pw_value (by rfl) (.int .i64 m) (exec_len_s 22 _ rfl (ae) (m) (ce) rfl sl_natsX) ?_
 simp only [Act.put, pu]
 refine pw_value (by rfl) (.int .i64 0) (fun _ => rfl) ?_
 simp only [Act.put, pu]
 refine pw_nil ?_
 go_wp2_with fail
 go_loopg [8, 11] m (fun g s8 s11 wr => ∃ k : Nat, k + g = m ∧ s11 = .int .i64 k ∧ Row wr gR (nsC na (yTk Q lo B c R k)) 32 ∧ Row wr g7 (natC c) 32 ∧ Kept [gR] w wr)
 case atStart => exact ⟨0, by omega, rfl, by rw [yTk_0]; exact rR, r7, sk⟩
 case round =>
  clear rR r7 sk
  obtain ⟨k, hk, rfl, rR, r7, sk⟩ := hrel
  cases gk with
  | zero =>
   obtain rfl : k = m := by omega
   clear hk HR
   (repeat ((fail_if_success with_reducible refine rg ?_); go_step))
   refine wp_region_pw ?_
   refine pw_value (by rfl) (.bool false) (exec_lt_b _ _ _ _ rfl k k rfl rfl false (decide_eq_false (Int.lt_irrefl _))) ?_
   simp only [Act.put, pu]
   refine pw_nil ?_
   go_wp2
   go_end0
   exact ⟨rfl, rR, sk⟩
  | succ g =>
   have hlt : k < m := by omega
   (repeat ((fail_if_success with_reducible refine rg ?_); go_step))
   refine wp_region_pw ?_
   refine pw_value (by rfl) (.bool true) (exec_lt_b _ _ _ _ rfl k m rfl rfl true (decide_eq_true (by omega))) ?_
   simp only [Act.put, pu]
   refine pw_nil ?_
   (repeat ((fail_if_success with_reducible refine rg ?_); go_step))
   refine wp_region_pw ?_
   refine pw_mv (by rfl) rfl rfl ?_
   simp only [Act.put, pu]
   refine pw_as (by rfl) rfl rfl ?_
   simp only [Act.put, pu]
   refine pw_nil ?_
   obtain h1 | ⟨rfl, rE, het⟩ := HE.out.at'
   ·exact absurd h1 (by omega)
   have het' := het k hlt
   have hgeR := hge (by omega)
   replace rE := sk.rowR rE (by simpa using hgeR)
   have hlt7 : ge ≠ g7 := fun e => by
    rcases HE.out.at' with h1 | ⟨_, q, _⟩
    ·omega
    ·have := q.lt
     omega
   have hpart : ∀ j u, (natC (yTk Q lo B c R k (lo + k))).toList[j]? = some u → (nsC na (yTk Q lo B c R k))[0 + lo * 4 + k * 4 + j]? = some u := nsC_part na _ (lo + k) (by omega) (0 + lo * 4 + k * 4) (by omega)
   have hold : yTk Q lo B c R k (lo + k) = R (lo + k) := if_neg (by omega)
   have hput := nsC_put na (yTk Q lo B c R k) (yTk Q lo B c R (k + 1)) (lo + k) (by omega) (0 + lo * 4 + k * 4) (by omega) (yTk Q lo B c R (k + 1) (lo + k)) (fun j hj => by
    by_cases hjk : j = lo + k
    ·rw [if_pos hjk, hjk]
    ·rw [if_neg hjk]
     unfold yTk
     by_cases h2 : lo ≤ j ∧ j < lo + k
     ·rw [if_pos h2, if_pos (by omega)]
     ·rw [if_neg h2, if_neg (by omega)])
   have hval : yTk Q lo B c R (k + 1) (lo + k) = sbN (R (lo + k)) (B k * c % Q) Q := by
    unfold yTk
    rw [if_pos (by omega), show lo + k - lo = k by omega]
   have hm2 := fun w' (hk : Kept [gR] w w') => hmu (B k) c w' (HE.out.lt k hlt) HC.out hk
   have hs2 := fun w' (hk : Kept [gR] w w') => hsu (yTk Q lo B c R k (lo + k)) (B k * c % Q) w' (HR.out _ _) (Nat.lt_trans (Nat.mod_lt _ h0) hQ) hk
   rw [hold, ← hval, ← hold] at hs2
   rw [hold] at hpart hs2
   clear hval hold
   generalize yTk Q lo B c R (k + 1) (lo + k) = X at *
   clear het
   (repeat ((fail_if_success with_reducible refine rg ?_); go_step))
   apply wp_region_mix (by kernel_rfl) [(gR, 32, nsC na (yTk Q lo B c R k))] [_, _, _, _, _, _, _, _, _, _, _, _, _, _, _, _, _] ⟨rR, trivial⟩ (by simp <;> omega)
   ·intro p
    refine mx_move rfl rfl ?_
    simp only [Act.put, pu]
    refine mx_move rfl rfl ?_
    simp only [Act.put, pu]
    refine mx_move rfl rfl ?_
    simp only [Act.put, pu]
    refine mx_move rfl rfl ?_
    simp only [Act.put, pu]
    refine mx_move rfl rfl ?_
    simp only [Act.put, pu]
    refine mx_val (.pointer (some ⟨gR, 0 + lo * 4 + k * 4, none⟩)) ((exec_index_s 22 _ _ rfl gR (0 + lo * 4) m cf rfl k rfl hlt _ Try.underlying22 4 size_nat4)) ?_
    simp only [Act.put, pu]
    refine mx_loadmT 0 32 _ rfl (0 + lo * 4 + k * 4) rfl rfl (natC (R (lo + k))) hpart _ Try.underlying32 rfl size_nat ?_
    simp only [Act.put, pu]
    refine mx_move rfl rfl ?_
    simp only [Act.put, pu]
    refine mx_move rfl rfl ?_
    simp only [Act.put, pu]
    refine mx_move rfl rfl ?_
    simp only [Act.put, pu]
    refine mx_val (.pointer (some ⟨ge, oe + k * 4, none⟩)) ((exec_index_s 22 _ _ rfl ge oe (m) (ce) rfl (k) rfl (hlt) _ Try.underlying22 4 size_nat4)) ?_
    simp only [Act.put, pu]
    refine mx_loadmR 32 _ rfl _ (oe + k * 4) rfl rE (by simp <;> omega) (natC (B k)) het' _ Try.underlying32 rfl size_nat ?_
    simp only [Act.put, pu]
    refine mx_load 32 _ rfl _ rfl r7 (by simp <;> omega) 4 _ Try.underlying32 size_nat ?_
    simp only [Act.put, pu]
    refine mx_callK 27 _ _ rfl Try.func27 (by kernel_rfl) #[.pointer v, .agg (natC (B k)), .agg (natC c)] rfl _ (fun w' hk => hm2 w' (sk.trans hk (by simp))) ?_
    simp only [Act.put, pu]
    refine mx_callK 29 _ _ rfl Try.func29 (by kernel_rfl) #[.pointer v, .agg (natC (R (lo + k))), .agg (natC (B k * c % Q))] rfl _ (fun w' hk => hs2 w' (sk.trans hk (by simp))) ?_
    simp only [Act.put, pu]
    refine mx_val (.pointer (some ⟨gR, 0 + lo * 4 + k * 4, none⟩)) ((exec_index_s 22 _ _ rfl gR (0 + lo * 4) m cf rfl k rfl hlt _ Try.underlying22 4 size_nat4)) ?_
    simp only [Act.put, pu]
    refine mx_putm 0 32 _ _ rfl (0 + lo * 4 + k * 4) rfl rfl (natC X) rfl (by exact size_nat) (by rw [nsC_size, natC_size]; omega) (natC_one _) (nsC na (yTk Q lo B c R (k + 1))) hput ?_
    simp only [Act.put]
    refine mx_end ?_
    intro w2 hkw hrw hnew hdis
    have zrR : Row w2 (gR) (nsC na (yTk Q lo B c R (k + 1))) 32 := hrw 0 (32, nsC na (yTk Q lo B c R (k + 1))) rfl
    replace r7 := hkw.row r7 (by simp <;> omega)
    replace sk := sk.trans hkw (by simp)
    clear hkw hrw hnew hdis rR
    have rR := zrR
    clear zrR
    (repeat ((fail_if_success with_reducible refine rg ?_); go_step))
    refine wp_region_pw ?_
    refine pw_value (by rfl) (.int .i64 ((k + 1 : Nat) : Int)) (exec_add_in _ _ _ _ rfl k 1 rfl rfl (by omega)) ?_
    simp only [Act.put, pu]
    refine pw_mv (by rfl) rfl rfl ?_
    simp only [Act.put, pu]
    refine pw_nil ?_
    go_wp2
    go_roundg g
    case measure => omega
    case rel => exact ⟨k + 1, by omega, rfl, rR, r7, sk⟩
   ·kernel_rfl
set_option maxRecDepth 100000 in
set_option maxHeartbeats 2000000 in
theorem div_none (v ab ae : Option Addr) (na ca nb cb : Nat) (E : Nat → Nat) (o : FO) (ge oe : Nat) (ecs : Array Value) (te : TypeId) (w : World) (hm : nb ≤ 1000) (hnb : NatsAt w ae nb E ge oe ecs te) (h : FA w v o) (h0 : yTn (yTm o E) nb = 0) :
  Calls Try.prog 17 #[.pointer v, .slice ab na ca, .slice ae nb cb] w fun e w' => e = .returned (.tuple #[.slice none 0 0, .slice none 0 0, .int .i64 1]) ∧ Below w.heap.size w w' := by
 have htr := fun w' (hb : Below w.heap.size w w') => trim_any v ae nb cb E o ge oe ecs te w' (by omega) (hnb.below hb) (h.below hb)
 rw [h0] at htr
 clear h0
 go_enter Try.func17, Try.ntmps17
 have sb := sbmk w
 (repeat ((fail_if_success with_reducible refine rg ?_); go_step))
 refine wp_region_pw ?_
 refine pw_value (by rfl) (.slice none 0 0) ((fun _ => rfl)) ?_
 simp only [Act.put, pu]
 refine pw_value (by rfl) (.slice none 0 0) ((fun _ => rfl)) ?_
 simp only [Act.put, pu]
 refine pw_value (by rfl) (.int .i64 0) (fun _ => rfl) ?_
 simp only [Act.put, pu]
 refine pw_nil ?_
 (repeat ((fail_if_success with_reducible refine rg ?_); go_step))
 refine wp_region_pw ?_
 refine pw_mv (by rfl) rfl rfl ?_
 simp only [Act.put, pu]
 refine pw_mv (by rfl) rfl rfl ?_
 simp only [Act.put, pu]
 refine pw_callE (by rfl) 16 _ _ rfl Try.func16 (by kernel_rfl) #[.pointer v, .slice ae nb cb] rfl (htr _ sb) ?_
 rintro _ z1002 ⟨gB, rfl, nB, rB, hb⟩
 refine ⟨_, rfl, ?_⟩
 simp only [Act.put, pu]
 have bB := Nat.le_trans sb.size nB
 clear nB
 have k := Kept.ofBelow hb
 clear hb
 replace sb := sb.trans (k.below w.heap.size sb.size (by simp <;> omega))
 clear k
 refine pw_as (by rfl) rfl rfl ?_
 simp only [Act.put, pu]
 refine pw_nil ?_
 (repeat ((fail_if_success with_reducible refine rg ?_); go_step))
 refine wp_region_pw ?_
 refine pw_mv (by rfl) rfl rfl ?_
 simp only [Act.put, pu]
 refine pw_value (by rfl) (.int .i64 0) (exec_len_s 22 _ rfl (some ⟨gB, 0, none⟩) (0) (nb) rfl sl_natsX) ?_
 simp only [Act.put, pu]
 refine pw_value (by rfl) (.bool true) (exec_eql_k .i64 _ _ _ _ rfl 0 0 rfl rfl true (decide_eq_true rfl)) ?_
 simp only [Act.put, pu]
 refine pw_nil ?_
 (repeat ((fail_if_success with_reducible refine rg ?_); go_step))
 refine wp_region_pw ?_
 refine pw_value (by rfl) (.slice none 0 0) ((fun _ => rfl)) ?_
 simp only [Act.put, pu]
 refine pw_value (by rfl) (.slice none 0 0) ((fun _ => rfl)) ?_
 simp only [Act.put, pu]
 refine pw_value (by rfl) (.int .i64 1) (fun _ => rfl) ?_
 simp only [Act.put, pu]
 refine pw_nil ?_
 go_wp2
 go_ret3
 exact ⟨rfl, sb⟩
set_option maxRecDepth 100000 in
set_option maxHeartbeats 2000000 in
theorem div_raw (g gr gf P Q G na ca nb cb : Nat) (ab ae : Option Addr) (F E : Nat → Nat) (gb ob ge oe : Nat) (bcs ecs : Array Value) (tb te : TypeId) (w : World) (q : FdQ Q) (hn : na ≤ 1000) (hm : nb ≤ 1000) (hna : NatsAt w ab na F gb ob bcs tb) (hnb : NatsAt w ae nb E ge oe ecs te) (h : GrpAt w g gr gf P Q G) (m n d : Nat) (B R0 : Nat → Nat) (IV : Nat) (hB : B = yTm (fO Q) E) (hR0 : R0 = yTm (fO Q) F) (hmm : yTn B nb = m) (hnn : yTn R0 na = n) (hd : n + 1 - m = d) (hIV : IV = invZ (B (m - 1)) Q) (hm0 : 0 < m) :
  Calls Try.prog 17 #[.pointer (some ⟨g, 0, none⟩), .slice ab na ca, .slice ae nb cb] w fun e w' => ∃ gO gR, e = .returned (.tuple #[.slice (some ⟨gO, 0, none⟩) d d, .slice (some ⟨gR, 0, none⟩) (yTn (yDv Q m d B IV R0 d).1 n) na, .int .i64 0]) ∧ Row w' gO (nsC d (yDv Q m d B IV R0 d).2) 32 ∧ Row w' gR (nsC na (yDv Q m d B IV R0 d).1) 32 ∧ Below w.heap.size w w' := by
 have htb := fun w' (hb : Below w.heap.size w w') => trim_any (some ⟨g, 0, none⟩) ae nb cb E (fO Q) ge oe ecs te w' (by omega) (hnb.below hb) ((h.fa q).below hb)
 have hta := fun w' (hb : Below w.heap.size w w') => trim_any (some ⟨g, 0, none⟩) ab na ca F (fO Q) gb ob bcs tb w' (by omega) (hna.below hb) ((h.fa q).below hb)
 have hBlt : ∀ i, B i < Q := fun i => by rw [hB]; exact Nat.mod_lt _ q.pos
 have hRlt : ∀ i, R0 i < Q := fun i => by rw [hR0]; exact Nat.mod_lt _ q.pos
 rw [← hB, hmm] at htb
 rw [← hR0, hnn] at hta
 have hmb : m ≤ nb := hmm ▸ yTn_le B nb
 have hnb' : n ≤ na := hnn ▸ yTn_le R0 na
 haveI : NeZero Q := ⟨by have := q.pos; omega⟩
 have HL : Hid (∀ k, (∀ i, (yDv Q m d B IV R0 k).1 i < Q) ∧ ∀ i, (yDv Q m d B IV R0 k).2 i < Q) := fun k => ⟨fun i => (yDv_lt m d (i + 1) B IV R0 (fun j _ => hRlt j) k).1 i (by omega), (yDv_lt m d 0 B IV R0 (fun j _ => hRlt j) k).2⟩
 have HBl : Hid (∀ i, B i < 2 ^ 256) := fun i => Nat.lt_trans (hBlt i) q.m
 have hIVl : IV < 2 ^ 256 := by rw [hIV]; exact Nat.lt_trans (inv_lt _ _ q.pr) q.m
 have hiv := fun w' (hb : Below w.heap.size w w') => fInv_ok (B (m - 1)) g gr gf P Q G w' (HBl.out _) q (h.below hb)
 rw [← hIV] at hiv
 have hmu := fun (X Y : Nat) w' (hX : X < 2 ^ 256) (hY : Y < 2 ^ 256) (hb : Below w.heap.size w w') => fMul_ok X Y g gr gf P Q G w' hX hY q (h.below hb)
 have hsu := fun (X Y : Nat) w' (hX : X < 2 ^ 256) (hY : Y < 2 ^ 256) (hb : Below w.heap.size w w') => fSub_ok X Y g gr gf P Q G w' hX hY q (h.below hb)
 have hd2 : (if ((n : Int) - (m : Int) + 1) > 0 then ((n : Int) - (m : Int) + 1) else 0) = ((d : Nat) : Int) := by split <;> omega
 obtain ⟨ie, hie, hze, hsz, hby⟩ := info_nat'
 have hgrow := h.row.lt
 clear hna hnb h hB hR0 hmm hnn hIV hBlt hRlt
 go_enter Try.func17, Try.ntmps17
 have sb := sbmk w
 (repeat ((fail_if_success with_reducible refine rg ?_); go_step))
 refine wp_region_pw ?_
 refine pw_value (by rfl) (.slice none 0 0) ((fun _ => rfl)) ?_
 simp only [Act.put, pu]
 refine pw_value (by rfl) (.slice none 0 0) ((fun _ => rfl)) ?_
 simp only [Act.put, pu]
 refine pw_value (by rfl) (.int .i64 0) (fun _ => rfl) ?_
 simp only [Act.put, pu]
 refine pw_nil ?_
 (repeat ((fail_if_success with_reducible refine rg ?_); go_step))
 refine wp_region_pw ?_
 refine pw_mv (by rfl) rfl rfl ?_
 simp only [Act.put, pu]
 refine pw_mv (by rfl) rfl rfl ?_
 simp only [Act.put, pu]
 refine pw_callE (by rfl) 16 _ _ rfl Try.func16 (by kernel_rfl) #[.pointer (some ⟨g, 0, none⟩), .slice ae nb cb] rfl (htb _ sb) ?_
 rintro _ z1002 ⟨gB, rfl, nB, rB, hb⟩
 refine ⟨_, rfl, ?_⟩
 simp only [Act.put, pu]
 have bB := Nat.le_trans sb.size nB
 clear nB
 have k := Kept.ofBelow hb
 clear hb
 replace sb := sb.trans (k.below w.heap.size sb.size (by simp <;> omega))
 clear k
 refine pw_as (by rfl) rfl rfl ?_
 simp only [Act.put, pu]
 refine pw_nil ?_
 (repeat ((fail_if_success with_reducible refine rg ?_); go_step))
 refine wp_region_pw ?_
 refine pw_mv (by rfl) rfl rfl ?_
 simp only [Act.put, pu]
 refine pw_value (by rfl) (.int .i64 m) (exec_len_s 22 _ rfl (some ⟨gB, 0, none⟩) (m) (nb) rfl sl_natsX) ?_
 simp only [Act.put, pu]
 refine pw_value (by rfl) (.bool false) (exec_eql_k .i64 _ _ _ _ rfl m 0 rfl rfl false (decide_eq_false (by omega))) ?_
 simp only [Act.put, pu]
 refine pw_nil ?_
 (repeat ((fail_if_success with_reducible refine rg ?_); go_step))
 refine wp_region_pw ?_
 refine pw_mv (by rfl) rfl rfl ?_
 simp only [Act.put, pu]
 refine pw_mv (by rfl) rfl rfl ?_
 simp only [Act.put, pu]
 refine pw_callE (by rfl) 16 _ _ rfl Try.func16 (by kernel_rfl) #[.pointer (some ⟨g, 0, none⟩), .slice ab na ca] rfl (hta _ sb) ?_
 rintro _ z4002 ⟨gR, rfl, nR, rR, hb⟩
 refine ⟨_, rfl, ?_⟩
 simp only [Act.put, pu]
 have dBxR := Nat.lt_of_lt_of_le rB.lt nR
 have bR := Nat.le_trans sb.size nR
 clear nR
 have k := Kept.ofBelow hb
 clear hb
 replace rB := k.row rB (by simp <;> omega)
 replace sb := sb.trans (k.below w.heap.size sb.size (by simp <;> omega))
 clear k
 refine pw_as (by rfl) rfl rfl ?_
 simp only [Act.put, pu]
 refine pw_nil ?_
 have hpB : ∀ j u, (natC (B (m - 1))).toList[j]? = some u → (nsC nb B)[0 + (m - 1) * 4 + j]? = some u := nsC_part nb B (m - 1) (by omega) _ (by omega)
 clear htb hta
 (repeat ((fail_if_success with_reducible refine rg ?_); go_step))
 refine wp_region_pw ?_
 refine pw_mv (by rfl) rfl rfl ?_
 simp only [Act.put, pu]
 refine pw_mv (by rfl) rfl rfl ?_
 simp only [Act.put, pu]
 refine pw_mv (by rfl) rfl rfl ?_
 simp only [Act.put, pu]
 refine pw_value (by rfl) (.int .i64 m) (exec_len_s 22 _ rfl (some ⟨gB, 0, none⟩) (m) (nb) rfl sl_natsX) ?_
 simp only [Act.put, pu]
 refine pw_value (by rfl) (.int .i64 ((m - 1 : Nat) : Int)) (exec_sub_in _ _ _ _ rfl m 1 rfl rfl (by omega) (by omega)) ?_
 simp only [Act.put, pu]
 refine pw_value (by rfl) (.pointer (some ⟨gB, 0 + (m - 1) * 4, none⟩)) ((exec_index_s 22 _ _ rfl gB 0 (m) (nb) rfl ((m - 1)) rfl (by omega) _ Try.underlying22 4 size_nat4)) ?_
 simp only [Act.put, pu]
 refine pw_loadm (by rfl) 32 _ rfl _ (0 + (m - 1) * 4) rfl rB.r (natC (B (m - 1))) hpB _ Try.underlying32 rfl size_nat ?_
 simp only [Act.put, pu]
 refine pw_callB (by rfl) 30 _ _ rfl Try.func30 (by kernel_rfl) #[.pointer (some ⟨g, 0, none⟩), .agg (natC (B (m - 1)))] rfl _ (hiv _ sb) ?_
 intro z5007 k
 simp only [Act.put, pu]
 replace rB := k.row rB (by simp <;> omega)
 replace rR := k.row rR (by simp <;> omega)
 replace sb := sb.trans (k.below w.heap.size sb.size (by simp <;> omega))
 clear k
 refine pw_new (by rfl) 32 rfl _ zero_nat ?_
 intro g10 z5008 n0 r10 k
 simp only [Act.put, pu]
 have dBx10 := Nat.lt_of_lt_of_le rB.lt n0
 have dRx10 := Nat.lt_of_lt_of_le rR.lt n0
 have b10 := Nat.le_trans sb.size n0
 clear n0
 replace rB := k.row rB (by simp <;> omega)
 replace rR := k.row rR (by simp <;> omega)
 replace sb := sb.trans (k.below w.heap.size sb.size (by simp <;> omega))
 clear k
 refine pw_put (by rfl) 32 _ _ rfl _ rfl r10 (natC IV) rfl (by exact size_nat) (by simp only [natC_size]) (natC_one _) ?_
 clear r10
 intro z5009 r10 k
 simp only [Act.put]
 replace rB := k.row rB (by simp <;> omega)
 replace rR := k.row rR (by simp <;> omega)
 replace sb := sb.trans (k.below w.heap.size sb.size (by simp <;> omega))
 clear k
 refine pw_nil ?_
 clear hpB hiv
 (repeat ((fail_if_success with_reducible refine rg ?_); go_step))
 refine wp_region_pw ?_
 refine pw_mv (by rfl) rfl rfl ?_
 simp only [Act.put, pu]
 refine pw_value (by rfl) (.int .i64 n) (exec_len_s 22 _ rfl (some ⟨gR, 0, none⟩) (n) (na) rfl sl_natsX) ?_
 simp only [Act.put, pu]
 refine pw_mv (by rfl) rfl rfl ?_
 simp only [Act.put, pu]
 refine pw_value (by rfl) (.int .i64 m) (exec_len_s 22 _ rfl (some ⟨gB, 0, none⟩) (m) (nb) rfl sl_natsX) ?_
 simp only [Act.put, pu]
 refine pw_value (by rfl) (.int .i64 ((n : Int) - (m : Int))) (y_subI _ _ _ _ rfl n m _ rfl rfl (by rw [IntKind.wrap_i64]; omega)) ?_
 simp only [Act.put, pu]
 refine pw_value (by rfl) (.int .i64 ((n : Int) - (m : Int) + 1)) (y_addI _ _ _ _ rfl ((n : Int) - (m : Int)) 1 _ rfl rfl (by rw [IntKind.wrap_i64]; omega)) ?_
 simp only [Act.put, pu]
 refine pw_value (by rfl) (.int .i64 (d : Nat)) (y_max _ _ _ rfl 0 ((n : Int) - (m : Int) + 1) _ rfl rfl hd2) ?_
 simp only [Act.put, pu]
 refine pw_make (by rfl) 22 32 _ _ rfl ie _ Try.underlying22 hie hze d rfl rfl (by rw [hsz]; omega) (by rw [hby]; omega) (by omega) ?_
 intro gO z6007 n0 rO k
 simp only [Act.put, pu]
 have dBxO := Nat.lt_of_lt_of_le rB.lt n0
 have dRxO := Nat.lt_of_lt_of_le rR.lt n0
 have d10xO := Nat.lt_of_lt_of_le r10.lt n0
 have bO := Nat.le_trans sb.size n0
 clear n0
 replace rB := k.row rB (by simp <;> omega)
 replace rR := k.row rR (by simp <;> omega)
 replace r10 := k.row r10 (by simp <;> omega)
 replace sb := sb.trans (k.below w.heap.size sb.size (by simp <;> omega))
 clear k
 refine pw_as (by rfl) rfl rfl ?_
 simp only [Act.put, pu]
 refine pw_nil ?_
 rw [hsz, made_nats] at rO
 clear hd2
 (repeat ((fail_if_success with_reducible refine rg ?_); go_step))
 refine wp_region_pw ?_
 refine pw_mv (by rfl) rfl rfl ?_
 simp only [Act.put, pu]
 refine pw_value (by rfl) (.int .i64 d) (exec_len_s 22 _ rfl (some ⟨gO, 0, none⟩) (d) (d) rfl sl_natsX) ?_
 simp only [Act.put, pu]
 refine pw_value (by rfl) (.int .i64 0) (fun _ => rfl) ?_
 simp only [Act.put, pu]
 refine pw_nil ?_
 go_wp2_with fail
 go_loopg [12, 13, 14, 42] d (fun x s12 s13 s14 s42 wr => ∃ k : Nat, k + x = d ∧ s42 = .int .i64 k ∧ Row wr gR (nsC na (yDv Q m d B IV R0 k).1) 32 ∧ Row wr gO (nsC d (yDv Q m d B IV R0 k).2) 32 ∧ Row wr gB (nsC nb B) 32 ∧ Row wr g10 (natC IV) 32 ∧ Below w.heap.size w wr)
 case atStart => exact ⟨0, by omega, rfl, rR, rO, rB, r10, sb⟩
 case round =>
  clear rR rO rB r10 sb
  obtain ⟨k, hk, rfl, rR, rO, rB, r10, sb⟩ := hrel
  cases gk with
  | zero =>
   obtain rfl : k = d := by omega
   have htr := fun w' (r : Row w' gR (nsC na (yDv Q m k B IV R0 k).1) 32) => trimmed_any (some ⟨gR, 0, none⟩) n na (yDv Q m k B IV R0 k).1 gR 0 _ _ w' (by omega) hnb' ((nats_row r (fun i _ => Nat.lt_trans ((HL.out k).1 i) q.m)).take hnb')
   clear hk hmu hsu
   (repeat ((fail_if_success with_reducible refine rg ?_); go_step))
   refine wp_region_pw ?_
   refine pw_value (by rfl) (.bool false) (exec_lt_b _ _ _ _ rfl k k rfl rfl false (decide_eq_false (Int.lt_irrefl _))) ?_
   simp only [Act.put, pu]
   refine pw_nil ?_
   (repeat ((fail_if_success with_reducible refine rg ?_); go_step))
   refine wp_region_pw ?_
   refine pw_mv (by rfl) rfl rfl ?_
   simp only [Act.put, pu]
   refine pw_mv (by rfl) rfl rfl ?_
   simp only [Act.put, pu]
   refine pw_callB (by rfl) 37 _ _ rfl Try.func37 (by kernel_rfl) #[.slice (some ⟨gR, 0, none⟩) n na] rfl _ (htr _ rR) ?_
   intro z15002 k
   simp only [Act.put, pu]
   replace rR := k.row rR (by simp <;> omega)
   replace rO := k.row rO (by simp <;> omega)
   replace sb := sb.trans (k.below w.heap.size sb.size (by simp <;> omega))
   clear k
   refine pw_as (by rfl) rfl rfl ?_
   simp only [Act.put, pu]
   refine pw_as (by rfl) rfl rfl ?_
   simp only [Act.put, pu]
   refine pw_value (by rfl) (.int .i64 0) (fun _ => rfl) ?_
   simp only [Act.put, pu]
   refine pw_nil ?_
   go_wp2
   go_ret3
   exact ⟨gO, gR, rfl, rO, rR, sb⟩
  | succ x =>
   have hlt : k < d := by omega
   obtain ⟨lo, hlo⟩ : ∃ lo, d - 1 - k = lo := ⟨_, rfl⟩
   have hlon : lo + m ≤ na := by omega
   obtain ⟨cc, hcc⟩ : ∃ cc, (yDv Q m d B IV R0 k).1 (lo + m - 1) * IV % Q = cc := ⟨_, rfl⟩
   have hccl : cc < 2 ^ 256 := by rw [← hcc]; exact Nat.lt_trans (Nat.mod_lt _ q.pos) q.m
   have hpart : ∀ j u, (natC ((yDv Q m d B IV R0 k).1 (lo + m - 1))).toList[j]? = some u → (nsC na (yDv Q m d B IV R0 k).1)[0 + lo * 4 + (m - 1) * 4 + j]? = some u := nsC_part na _ (lo + m - 1) (by omega) _ (by omega)
   have hput := nsC_put d (yDv Q m d B IV R0 k).2 (yDv Q m d B IV R0 (k + 1)).2 lo (by omega) (0 + lo * 4) (by omega) cc (fun j hj => by
    show (if j = d - 1 - k then _ else _) = _
    rw [hlo, hcc])
   have hpO : ∀ j u, (natC cc).toList[j]? = some u → (nsC d (yDv Q m d B IV R0 (k + 1)).2)[0 + lo * 4 + j]? = some u := by
    have e : (yDv Q m d B IV R0 (k + 1)).2 lo = cc := by
     show (if lo = d - 1 - k then _ else _) = _
     rw [hlo, if_pos rfl, hcc]
    have := nsC_part d (yDv Q m d B IV R0 (k + 1)).2 lo (by omega) (0 + lo * 4) (by omega)
    rw [e] at this
    exact this
   have hmu2 := fun w' (hb : Below w.heap.size w w') => hmu ((yDv Q m d B IV R0 k).1 (lo + m - 1)) IV w' (Nat.lt_trans ((HL.out k).1 _) q.m) hIVl hb
   have HRE : Hid (yTk Q lo B cc (yDv Q m d B IV R0 k).1 m = (yDv Q m d B IV R0 (k + 1)).1) := funext fun i => by
    show _ = if d - 1 - k ≤ i ∧ i < d - 1 - k + m then _ else _
    rw [hlo, hcc]
    rfl
   rw [hcc] at hmu2
   (repeat ((fail_if_success with_reducible refine rg ?_); go_step))
   refine wp_region_pw ?_
   refine pw_value (by rfl) (.bool true) (exec_lt_b _ _ _ _ rfl k d rfl rfl true (decide_eq_true (by omega))) ?_
   simp only [Act.put, pu]
   refine pw_nil ?_
   (repeat ((fail_if_success with_reducible refine rg ?_); go_step))
   refine wp_region_pw ?_
   refine pw_mv (by rfl) rfl rfl ?_
   simp only [Act.put, pu]
   refine pw_as (by rfl) rfl rfl ?_
   simp only [Act.put, pu]
   refine pw_nil ?_
   (repeat ((fail_if_success with_reducible refine rg ?_); go_step))
   refine wp_region_pw ?_
   refine pw_mv (by rfl) rfl rfl ?_
   simp only [Act.put, pu]
   refine pw_value (by rfl) (.int .i64 d) (exec_len_s 22 _ rfl (some ⟨gO, 0, none⟩) (d) (d) rfl sl_natsX) ?_
   simp only [Act.put, pu]
   refine pw_value (by rfl) (.int .i64 ((d - 1 : Nat) : Int)) (exec_sub_in _ _ _ _ rfl d 1 rfl rfl (by omega) (by omega)) ?_
   simp only [Act.put, pu]
   refine pw_mv (by rfl) rfl rfl ?_
   simp only [Act.put, pu]
   refine pw_value (by rfl) (.int .i64 ((lo : Nat) : Int)) (fun w' => (exec_sub_in _ _ _ _ rfl (d - 1) k rfl rfl (by omega) (by omega) w').trans (by rw [hlo])) ?_
   simp only [Act.put, pu]
   refine pw_as (by rfl) rfl rfl ?_
   simp only [Act.put, pu]
   refine pw_nil ?_
   (repeat ((fail_if_success with_reducible refine rg ?_); go_step))
   refine wp_region_pw ?_
   refine pw_mv (by rfl) rfl rfl ?_
   simp only [Act.put, pu]
   refine pw_mv (by rfl) rfl rfl ?_
   simp only [Act.put, pu]
   refine pw_mv (by rfl) rfl rfl ?_
   simp only [Act.put, pu]
   refine pw_mv (by rfl) rfl rfl ?_
   simp only [Act.put, pu]
   refine pw_value (by rfl) (.int .i64 m) (exec_len_s 22 _ rfl (some ⟨gB, 0, none⟩) (m) (nb) rfl sl_natsX) ?_
   simp only [Act.put, pu]
   refine pw_value (by rfl) (.int .i64 ((lo + m : Nat) : Int)) (exec_add_in _ _ _ _ rfl lo m rfl rfl (by omega)) ?_
   simp only [Act.put, pu]
   refine pw_value (by rfl) (.slice (some ⟨gR, 0 + lo * 4, none⟩) m (na - lo)) (fun w' => (y_part _ _ _ _ rfl sl_natsX 4 size_eln gR 0 n na lo (lo + m) rfl rfl rfl (by omega) (by omega) (by omega) w').trans (by rw [Nat.add_sub_cancel_left])) ?_
   simp only [Act.put, pu]
   refine pw_as (by rfl) rfl rfl ?_
   simp only [Act.put, pu]
   refine pw_nil ?_
   clear hcc
   (repeat ((fail_if_success with_reducible refine rg ?_); go_step))
   apply wp_region_mix (by kernel_rfl) [(gO, 32, nsC d (yDv Q m d B IV R0 k).2)] [_, _, _, _, _, _, _, _, _, _, _, _, _] ⟨rO, trivial⟩ (by simp <;> omega)
   ·intro p
    refine mx_move rfl rfl ?_
    simp only [Act.put, pu]
    refine mx_move rfl rfl ?_
    simp only [Act.put, pu]
    refine mx_move rfl rfl ?_
    simp only [Act.put, pu]
    refine mx_move rfl rfl ?_
    simp only [Act.put, pu]
    refine mx_move rfl rfl ?_
    simp only [Act.put, pu]
    refine mx_val (.int .i64 m) (exec_len_s 22 _ rfl (some ⟨gB, 0, none⟩) (m) (nb) rfl sl_natsX) ?_
    simp only [Act.put, pu]
    refine mx_val (.int .i64 ((m - 1 : Nat) : Int)) ((exec_sub_in _ _ _ _ rfl m 1 rfl rfl (by omega) (by omega))) ?_
    simp only [Act.put, pu]
    refine mx_val (.pointer (some ⟨gR, 0 + lo * 4 + (m - 1) * 4, none⟩)) ((exec_index_s 22 _ _ rfl gR (0 + lo * 4) m (na - lo) rfl (m - 1) rfl (by omega) _ Try.underlying22 4 size_nat4)) ?_
    simp only [Act.put, pu]
    refine mx_loadm 32 _ rfl _ (0 + lo * 4 + (m - 1) * 4) rfl rR (by simp <;> omega) (natC ((yDv Q m d B IV R0 k).1 (lo + m - 1))) hpart _ Try.underlying32 rfl size_nat ?_
    simp only [Act.put, pu]
    refine mx_load 32 _ rfl _ rfl r10 (by simp <;> omega) 4 _ Try.underlying32 size_nat ?_
    simp only [Act.put, pu]
    refine mx_callK 27 _ _ rfl Try.func27 (by kernel_rfl) #[.pointer (some ⟨g, 0, none⟩), .agg (natC ((yDv Q m d B IV R0 k).1 (lo + m - 1))), .agg (natC IV)] rfl _ (fun w' hk => hmu2 w' (sb.trans (hk.below w.heap.size sb.size (by simp <;> omega)))) ?_
    simp only [Act.put, pu]
    refine mx_val (.pointer (some ⟨gO, 0 + lo * 4, none⟩)) ((exec_index_s 22 _ _ rfl gO 0 d d rfl lo rfl (by omega) _ Try.underlying22 4 size_nat4)) ?_
    simp only [Act.put, pu]
    refine mx_putm 0 32 _ _ rfl (0 + lo * 4) rfl rfl (natC cc) rfl (by exact size_nat) (by rw [nsC_size, natC_size]; omega) (natC_one _) (nsC d (yDv Q m d B IV R0 (k + 1)).2) hput ?_
    simp only [Act.put]
    refine mx_end ?_
    intro w2 hkw hrw hnew hdis
    have zrO : Row w2 (gO) (nsC d (yDv Q m d B IV R0 (k + 1)).2) 32 := hrw 0 (32, nsC d (yDv Q m d B IV R0 (k + 1)).2) rfl
    replace rB := hkw.row rB (by simp <;> omega)
    replace rR := hkw.row rR (by simp <;> omega)
    replace r10 := hkw.row r10 (by simp <;> omega)
    replace sb := sb.trans (hkw.below w.heap.size sb.size (by simp <;> omega))
    clear hkw hrw hnew hdis rO
    have rO := zrO
    clear zrO
    have hto := fun w' (hb : Below w.heap.size w w') (r : Row w' gR (nsC na (yDv Q m d B IV R0 k).1) 32) (q3 : Row w' gB (nsC nb B) 32) => takeOff_any (some ⟨g, 0, none⟩) (some ⟨gB, 0, none⟩) Q gR na lo m (na - lo) nb cc (yDv Q m d B IV R0 k).1 B gB 0 _ _ w' q.m q.pos (by omega) (by omega) hlon hccl (HL.out k).1 (fun _ => by omega) r ((nats_row q3 (fun i _ => HBl.out i)).take hmb) (fun X Y w2 hX hY hk => hmu X Y w2 hX hY (hb.trans (hk.below w.heap.size hb.size (by simp <;> omega)))) (fun X Y w2 hX hY hk => hsu X Y w2 hX hY (hb.trans (hk.below w.heap.size hb.size (by simp <;> omega))))
    rw [HRE.out] at hto
    (repeat ((fail_if_success with_reducible refine rg ?_); go_step))
    refine wp_region_pw ?_
    refine pw_mv (by rfl) rfl rfl ?_
    simp only [Act.put, pu]
    refine pw_mv (by rfl) rfl rfl ?_
    simp only [Act.put, pu]
    refine pw_mv (by rfl) rfl rfl ?_
    simp only [Act.put, pu]
    refine pw_mv (by rfl) rfl rfl ?_
    simp only [Act.put, pu]
    refine pw_mv (by rfl) rfl rfl ?_
    simp only [Act.put, pu]
    refine pw_value (by rfl) (.pointer (some ⟨gO, 0 + lo * 4, none⟩)) ((exec_index_s 22 _ _ rfl gO 0 d d rfl lo rfl (by omega) _ Try.underlying22 4 size_nat4)) ?_
    simp only [Act.put, pu]
    refine pw_loadm (by rfl) 32 _ rfl _ (0 + lo * 4) rfl rO.r (natC cc) hpO _ Try.underlying32 rfl size_nat ?_
    simp only [Act.put, pu]
    refine pw_callE (by rfl) 36 _ _ rfl Try.func36 (by kernel_rfl) #[.pointer (some ⟨g, 0, none⟩), .slice (some ⟨gR, 0 + lo * 4, none⟩) m (na - lo), .slice (some ⟨gB, 0, none⟩) m nb, .agg (natC cc)] rfl (hto _ sb rR rB) ?_
    have crR := rR.lt
    clear rR
    rintro _ z13007 ⟨rfl, rR, k⟩
    refine ⟨_, rfl, ?_⟩
    simp only [Act.put, pu]
    clear crR
    replace rO := k.row rO (by simp <;> omega)
    replace rB := k.row rB (by simp <;> omega)
    replace r10 := k.row r10 (by simp <;> omega)
    replace sb := sb.trans (k.below w.heap.size sb.size (by simp <;> omega))
    clear k
    refine pw_nil ?_
    (repeat ((fail_if_success with_reducible refine rg ?_); go_step))
    refine wp_region_pw ?_
    refine pw_value (by rfl) (.int .i64 ((k + 1 : Nat) : Int)) (exec_add_in _ _ _ _ rfl k 1 rfl rfl (by omega)) ?_
    simp only [Act.put, pu]
    refine pw_mv (by rfl) rfl rfl ?_
    simp only [Act.put, pu]
    refine pw_nil ?_
    go_wp2
    go_roundg x
    case measure => omega
    case rel => exact ⟨k + 1, by omega, rfl, rR, rO, rB, r10, sb⟩
   ·kernel_rfl
end Go.Proofs.Ythnpeebnmommbaa
