/- Of: the space that knows some keys. -/
import Derived.Test.YtchiiphmpkmloaaSpUse
namespace Go.Proofs.Ytchiiphmpkmloaa
open Go.RowKit
set_option linter.unusedVariables false
set_option linter.unusedSectionVars false
set_option linter.unusedSimpArgs false
section
variable {P : Program}
section
variable {ops : Array Oper} {C : World → Prop} {Q : Act → World → Prop} {fn : Nat → Bool} {k : Nat} {L : DL} {a : Act} {w : World} {o : Oper}
/-- append of one element, as a hard operation. -/
theorem ew_app1 (hw : Region.wanted o (yielded ops a.tmps) = true) (s x : Operand) (t : TypeId) (ho : o.op = .call { callee := .builtin .append, args := #[s, x], argTypes := #[t, t] })
  (base : Nat) (e : TypeId) (i : TypeInfo) (z : Value) (size bytes : Nat) (ht : P.underlying t = some (.slice e)) (hi : P.info? e = some i) (hz : i.zero = some z) (hsize : i.size = size) (hby : i.bytes = bytes) (hzs : z.cells.size = size) (hsz : 0 < size)
  (v : Value) (n : Nat) (xs : List Value) (hs : a.eval s = v) (hown : w.ownsRow base e size v n xs) (gx c : Nat) (hx : a.eval x = .slice (some ⟨gx, 0, none⟩) 1 c) {cx : Array Value} {tx : TypeId} (rx : Row w gx cx tx) (hcx : cx.size = size) (h1 : cx.all (·.oneCell') = true)
  (h63 : n + 1 ≤ maxLen) (hbytes : (n + 1) * bytes ≤ 140737488355328) (hbase : base ≤ w.heap.size)
  (h : ∀ w2, Below w.heap.size w w2 → ∀ v' w3, w3.ownsRow base e size v' (n + 1) (xs ++ cx.toList) → Kept v.ownBlock.toList w2 w3 → (v'.ownBlock = v.ownBlock ∨ v'.ownBlock = some w2.heap.size) → (fn k = false → C w3) ∧ EW P ops C Q fn L (a.put o.dst v') w3) : EW P ops C Q fn ((k, o, true) :: L) a w := by
 refine ew_hard hw fun w2 hb => ?_
 have own2 := own_below hown hb
 have rx2 := rx.belowAll hb
 have hl : cx.toList.length = 1 * size := by rw [Array.length_toList, hcx, Nat.one_mul]
 have hnews : ∀ j u, cx.toList[j]? = some u → w2.cell? ((⟨gx, 0, none⟩ : Addr).add j) = some u := by
  intro j u hu
  rw [Array.getElem?_toList] at hu
  rw [Addr.add_mid, Nat.zero_add, cell_of_row w2 gx j cx tx (0, 0) rx2]
  exact hu
 have hbase2 : base ≤ w2.heap.size := Nat.le_trans hbase hb.size
 obtain ⟨v', w', hr, h2, h3, _⟩ := run_append_own (P := P) w2 base t o.type e i z size bytes ht hi hz hsize hby hzs hsz v n xs own2 ⟨gx, 0, none⟩ 1 c cx.toList hl hnews (cells_one h1) h63 hbytes hbase2
 have hp := app_place (P := P) w2 base t o.type e i z size bytes ht hi hz hsize hby v n xs own2 ⟨gx, 0, none⟩ 1 c cx.toList hl hnews (cells_one h1) h63 hbytes (by decide) v' w' hr
 have hd : (execOp a.eval o).run P w2 = .ok (.value v') w' := by
  unfold execOp
  simp only [ho, resolve, invoke, builtin, Sem.run_bind, Sem.run_pure, Result.andThen_ok, List.map_toArray, List.map_cons, List.map_nil, hs, hx, hr]
 rw [hd]
 exact h w2 hb v' w' h2 ⟨h3.os, h3.tape, h3.output, h3.size, fun k hk hn => h3.block k hk fun e => by
  rw [← e] at hn
  simp at hn⟩ hp
end
end
/-- What each end let be known. -/
def UFj (zs : List Int) (j : Nat) (e : Int) : Int := if 1 ≤ e ∧ e ≤ j then zs.getD (e - 1).toNat 0 else 0
theorem UFj_zero (zs : List Int) : UFj zs 0 = fun _ => 0 := by
 funext e
 unfold UFj
 rw [if_neg (by omega)]
theorem UFj_step (zs : List Int) (j : Nat) : (fun e => if e = ((j + 1 : Nat) : Int) then zs.getD j 0 else UFj zs j e) = UFj zs (j + 1) := by
 funext e
 unfold UFj
 by_cases h : e = ((j + 1 : Nat) : Int)
 ·rw [if_pos h, if_pos (by omega), show (e - 1).toNat = j by omega]
 ·rw [if_neg h]
  by_cases h2 : 1 ≤ e ∧ e ≤ j
  ·rw [if_pos h2, if_pos (by omega)]
  ·rw [if_neg h2, if_neg (by omega)]
/-- May there be such a space? -/
def mayOf (n m : Int) (zs : List Int) (l : List Ky) : Bool := decide (1 ≤ n ∧ n ≤ 7 ∧ 1 ≤ m ∧ m ≤ 4) && muB n m zs l.length && keyB l l.length
theorem keyB_srt {l : List Ky} (h : keyB l l.length = true) : Srt l := by
 have h1 := keyB_at h
 have step : ∀ i, i + 1 < l.length → lb (l.getD i []) (l.getD (i + 1) []) = true := fun i hi => (h1 (i + 1) hi).2.resolve_left (by omega)
 have far : ∀ d i, i + d + 1 < l.length → lb (l.getD i []) (l.getD (i + d + 1) []) = true := by
  intro d
  induction d with
  | zero => exact fun i hi => step i hi
  | succ d ih => exact fun i hi => lb_trans _ _ _ (ih i (by omega)) (step (i + d + 1) hi)
 refine List.pairwise_iff_getElem.2 fun i j hi hj hij => ?_
 have h2 := far (j - i - 1) i (by omega)
 rw [show i + (j - i - 1) + 1 = j by omega, List.getD_eq_getElem?_getD, List.getD_eq_getElem?_getD, List.getElem?_eq_getElem hi, List.getElem?_eq_getElem hj] at h2
 exact h2
theorem ownS_snoc {w : World} {base : Nat} {v : Value} {l : List Ky} {x : Ky} {n : Nat} {xs : List Value} (h : w.ownsRow base 9 1 v n xs) (hn : n = l.length + 1) (hx : xs = l.map strV ++ #[strV x].toList) : OwnS w base v (l ++ [x]) := by
 subst hn hx
 unfold OwnS
 rw [List.map_append, List.length_append]
 exact h
set_option maxRecDepth 100000 in
set_option maxHeartbeats 2000000 in
theorem of_no (n m : Int) (ak : Option Addr) (ck : Nat) (l : List Ky) (gk ok : Nat) (kcs : Array Value) (tk : TypeId) (az : Option Addr) (cz : Nat) (zs : List Int) (gz oz : Nat) (zcs : Array Value) (tz : TypeId) (w : World) (hk : ElsAt 1 w ak l.length (stC l) gk ok kcs tk) (hz : ElsAt 1 w az zs.length (inC zs) gz oz zcs tz) (hl : l.length ≤ 1000) (hzl : zs.length ≤ 1000) (h40 : ∀ j, j < l.length → (l.getD j []).length ≤ 16777216) (hno : mayOf n m zs l = false) :
  Calls Try.prog 21 #[.int .i64 n, .int .i64 m, .slice ak l.length ck, .slice az zs.length cz] w fun e w' => e = .returned (.tuple #[.pointer none, .int .i64 1]) ∧ Below w.heap.size w w' := by
 have HK : Hid (ElsAt 1 w ak l.length (stC l) gk ok kcs tk) := hk
 have HZ : Hid (ElsAt 1 w az zs.length (inC zs) gz oz zcs tz) := hz
 clear hk hz
 by_cases hin : 1 ≤ n ∧ n ≤ 7 ∧ 1 ≤ m ∧ m ≤ 4
 ·obtain ⟨h1, h7, h2, h4⟩ := hin
  unfold mayOf at hno
  rw [decide_eq_true ⟨h1, h7, h2, h4⟩, Bool.true_and] at hno
  cases hmu : muB n m zs l.length with
  | false =>
   clear hno
   go_enter Try.func21, Try.ntmps21
   have sb := sbmk w
   (repeat ((fail_if_success with_reducible refine rg ?_); go_step))
   refine wp_region_pw ?_
   refine pw_value (by rfl) (.pointer none) (fun _ => rfl) ?_
   simp only [Act.put, pu]
   refine pw_value (by rfl) (.int .i64 0) (fun _ => rfl) ?_
   simp only [Act.put, pu]
   refine pw_nil ?_
   (repeat ((fail_if_success with_reducible refine rg ?_); go_step))
   refine wp_region_pw ?_
   refine pw_mv (by rfl) rfl rfl ?_
   simp only [Act.put, pu]
   refine pw_mv (by rfl) rfl rfl ?_
   simp only [Act.put, pu]
   refine pw_callE (by rfl) 9 _ _ rfl Try.func9 (by kernel_rfl) #[.int .i64 n, .int .i64 m] rfl (snew_yes n m _ h1 h7 h2 h4) ?_
   rintro _ z1002 ⟨g5, mb, rfl, n5, hmb, r5, hM, hb⟩
   refine ⟨_, rfl, ?_⟩
   simp only [Act.put, pu]
   have b5 := Nat.le_trans sb.size n5
   clear n5
   have k := Kept.ofBelow hb
   clear hb
   replace sb := sb.trans (k.below w.heap.size sb.size (by simp <;> omega))
   clear k
   refine pw_mv (by rfl) rfl rfl ?_
   simp only [Act.put, pu]
   refine pw_ext (by rfl) rfl rfl rfl ?_
   simp only [Act.put, pu]
   refine pw_ext (by rfl) rfl rfl rfl ?_
   simp only [Act.put, pu]
   refine pw_as (by rfl) rfl rfl ?_
   simp only [Act.put, pu]
   refine pw_as (by rfl) rfl rfl ?_
   simp only [Act.put, pu]
   refine pw_nil ?_
   have hMu := fun w' (r : Row w' g5 (sxC n m (.slice none 0 0) (.map (some mb))) 57) (hb : Below w.heap.size w w') => muse_any g5 n m _ _ az cz zs gz oz zcs tz (l.length : Nat) w' r (HZ.out.below hb) hzl h1 h7 h2 h4
   have hMk := fun w' (hb : Below w.heap.size w w') => mkno_any ak ck l gk ok kcs tk w' (HK.out.below hb) (by omega) h40
   rw [hmu] at hMu
   (repeat ((fail_if_success with_reducible refine rg ?_); go_step))
   refine wp_region_pw ?_
   refine pw_mv (by rfl) rfl rfl ?_
   simp only [Act.put, pu]
   refine pw_value (by rfl) (.bool false) (exec_neq_k .i64 _ _ _ _ rfl (0) (0) rfl rfl false (by rw [decide_eq_true rfl]; rfl)) ?_
   simp only [Act.put, pu]
   refine pw_mv (by rfl) rfl rfl ?_
   simp only [Act.put, pu]
   refine pw_mv (by rfl) rfl rfl ?_
   simp only [Act.put, pu]
   refine pw_mv (by rfl) rfl rfl ?_
   simp only [Act.put, pu]
   refine pw_mv (by rfl) rfl rfl ?_
   simp only [Act.put, pu]
   refine pw_value (by rfl) (.int .i64 (l.length : Nat)) (exec_len_s 30 _ rfl (ak) (l.length) (ck) rfl sl_strs) ?_
   simp only [Act.put, pu]
   refine pw_callB (by rfl) 29 _ _ rfl Try.func29 (by kernel_rfl) #[.pointer (some ⟨g5, 0, none⟩), .slice az zs.length cz, .int .i64 (l.length : Nat)] rfl _ (hMu _ r5 sb) ?_
   intro z2007 k
   simp only [Act.put, pu]
   replace r5 := k.row r5 (by simp <;> omega)
   replace hM := hM.on k (by simp <;> omega)
   replace sb := sb.trans (k.below w.heap.size sb.size (by simp <;> omega))
   clear k
   refine pw_value (by rfl) (.bool true) (exec_not _ _ rfl false rfl) ?_
   simp only [Act.put, pu]
   refine pw_pick (by rfl) false (v := .bool true) rfl rfl rfl ?_
   simp only [Act.put, pu]
   refine pw_mv (by rfl) rfl rfl ?_
   simp only [Act.put, pu]
   refine pw_skip (by rfl) ?_
   simp only [Act.put, pu]
   refine pw_skip (by rfl) ?_
   simp only [Act.put, pu]
   refine pw_skip (by rfl) ?_
   simp only [Act.put, pu]
   refine pw_pick (by rfl) true (v := .bool true) rfl rfl rfl ?_
   simp only [Act.put, pu]
   refine pw_nil ?_
   (repeat ((fail_if_success with_reducible refine rg ?_); go_step))
   refine wp_region_pw ?_
   refine pw_value (by rfl) (.pointer none) (fun _ => rfl) ?_
   simp only [Act.put, pu]
   refine pw_value (by rfl) (.int .i64 1) (fun _ => rfl) ?_
   simp only [Act.put, pu]
   refine pw_nil ?_
   go_wp2
   go_ret2
   exact ⟨rfl, sb⟩
  | true =>
   rw [hmu, Bool.true_and] at hno
   go_enter Try.func21, Try.ntmps21
   have sb := sbmk w
   (repeat ((fail_if_success with_reducible refine rg ?_); go_step))
   refine wp_region_pw ?_
   refine pw_value (by rfl) (.pointer none) (fun _ => rfl) ?_
   simp only [Act.put, pu]
   refine pw_value (by rfl) (.int .i64 0) (fun _ => rfl) ?_
   simp only [Act.put, pu]
   refine pw_nil ?_
   (repeat ((fail_if_success with_reducible refine rg ?_); go_step))
   refine wp_region_pw ?_
   refine pw_mv (by rfl) rfl rfl ?_
   simp only [Act.put, pu]
   refine pw_mv (by rfl) rfl rfl ?_
   simp only [Act.put, pu]
   refine pw_callE (by rfl) 9 _ _ rfl Try.func9 (by kernel_rfl) #[.int .i64 n, .int .i64 m] rfl (snew_yes n m _ h1 h7 h2 h4) ?_
   rintro _ z1002 ⟨g5, mb, rfl, n5, hmb, r5, hM, hb⟩
   refine ⟨_, rfl, ?_⟩
   simp only [Act.put, pu]
   have b5 := Nat.le_trans sb.size n5
   clear n5
   have k := Kept.ofBelow hb
   clear hb
   replace sb := sb.trans (k.below w.heap.size sb.size (by simp <;> omega))
   clear k
   refine pw_mv (by rfl) rfl rfl ?_
   simp only [Act.put, pu]
   refine pw_ext (by rfl) rfl rfl rfl ?_
   simp only [Act.put, pu]
   refine pw_ext (by rfl) rfl rfl rfl ?_
   simp only [Act.put, pu]
   refine pw_as (by rfl) rfl rfl ?_
   simp only [Act.put, pu]
   refine pw_as (by rfl) rfl rfl ?_
   simp only [Act.put, pu]
   refine pw_nil ?_
   have hMu := fun w' (r : Row w' g5 (sxC n m (.slice none 0 0) (.map (some mb))) 57) (hb : Below w.heap.size w w') => muse_any g5 n m _ _ az cz zs gz oz zcs tz (l.length : Nat) w' r (HZ.out.below hb) hzl h1 h7 h2 h4
   have hMk := fun w' (hb : Below w.heap.size w w') => mkno_any ak ck l gk ok kcs tk w' (HK.out.below hb) (by omega) h40
   rw [hmu] at hMu
   rw [hno] at hMk
   (repeat ((fail_if_success with_reducible refine rg ?_); go_step))
   refine wp_region_pw ?_
   refine pw_mv (by rfl) rfl rfl ?_
   simp only [Act.put, pu]
   refine pw_value (by rfl) (.bool false) (exec_neq_k .i64 _ _ _ _ rfl (0) (0) rfl rfl false (by rw [decide_eq_true rfl]; rfl)) ?_
   simp only [Act.put, pu]
   refine pw_mv (by rfl) rfl rfl ?_
   simp only [Act.put, pu]
   refine pw_mv (by rfl) rfl rfl ?_
   simp only [Act.put, pu]
   refine pw_mv (by rfl) rfl rfl ?_
   simp only [Act.put, pu]
   refine pw_mv (by rfl) rfl rfl ?_
   simp only [Act.put, pu]
   refine pw_value (by rfl) (.int .i64 (l.length : Nat)) (exec_len_s 30 _ rfl (ak) (l.length) (ck) rfl sl_strs) ?_
   simp only [Act.put, pu]
   refine pw_callB (by rfl) 29 _ _ rfl Try.func29 (by kernel_rfl) #[.pointer (some ⟨g5, 0, none⟩), .slice az zs.length cz, .int .i64 (l.length : Nat)] rfl _ (hMu _ r5 sb) ?_
   intro z2007 k
   simp only [Act.put, pu]
   replace r5 := k.row r5 (by simp <;> omega)
   replace hM := hM.on k (by simp <;> omega)
   replace sb := sb.trans (k.below w.heap.size sb.size (by simp <;> omega))
   clear k
   refine pw_value (by rfl) (.bool false) (exec_not _ _ rfl true rfl) ?_
   simp only [Act.put, pu]
   refine pw_pick (by rfl) false (v := .bool false) rfl rfl rfl ?_
   simp only [Act.put, pu]
   refine pw_mv (by rfl) rfl rfl ?_
   simp only [Act.put, pu]
   refine pw_mv (by rfl) rfl rfl ?_
   simp only [Act.put, pu]
   refine pw_callB (by rfl) 30 _ _ rfl Try.func30 (by kernel_rfl) #[.slice ak l.length ck] rfl _ (hMk _ sb) ?_
   intro z2012 k
   simp only [Act.put, pu]
   replace r5 := k.row r5 (by simp <;> omega)
   replace hM := hM.on k (by simp <;> omega)
   replace sb := sb.trans (k.below w.heap.size sb.size (by simp <;> omega))
   clear k
   refine pw_value (by rfl) (.bool true) (exec_not _ _ rfl false rfl) ?_
   simp only [Act.put, pu]
   refine pw_pick (by rfl) false (v := .bool true) rfl rfl rfl ?_
   simp only [Act.put, pu]
   refine pw_nil ?_
   (repeat ((fail_if_success with_reducible refine rg ?_); go_step))
   refine wp_region_pw ?_
   refine pw_value (by rfl) (.pointer none) (fun _ => rfl) ?_
   simp only [Act.put, pu]
   refine pw_value (by rfl) (.int .i64 1) (fun _ => rfl) ?_
   simp only [Act.put, pu]
   refine pw_nil ?_
   go_wp2
   go_ret2
   exact ⟨rfl, sb⟩
 ·have hbad : n < 1 ∨ 7 < n ∨ m < 1 ∨ 4 < m := by omega
  clear hno
  go_enter Try.func21, Try.ntmps21
  have sb := sbmk w
  (repeat ((fail_if_success with_reducible refine rg ?_); go_step))
  refine wp_region_pw ?_
  refine pw_value (by rfl) (.pointer none) (fun _ => rfl) ?_
  simp only [Act.put, pu]
  refine pw_value (by rfl) (.int .i64 0) (fun _ => rfl) ?_
  simp only [Act.put, pu]
  refine pw_nil ?_
  (repeat ((fail_if_success with_reducible refine rg ?_); go_step))
  refine wp_region_pw ?_
  refine pw_mv (by rfl) rfl rfl ?_
  simp only [Act.put, pu]
  refine pw_mv (by rfl) rfl rfl ?_
  simp only [Act.put, pu]
  refine pw_callB (by rfl) 9 _ _ rfl Try.func9 (by kernel_rfl) #[.int .i64 n, .int .i64 m] rfl _ (snew_no n m _ hbad) ?_
  intro z1002 k
  simp only [Act.put, pu]
  replace sb := sb.trans (k.below w.heap.size sb.size (by simp <;> omega))
  clear k
  refine pw_mv (by rfl) rfl rfl ?_
  simp only [Act.put, pu]
  refine pw_ext (by rfl) rfl rfl rfl ?_
  simp only [Act.put, pu]
  refine pw_ext (by rfl) rfl rfl rfl ?_
  simp only [Act.put, pu]
  refine pw_as (by rfl) rfl rfl ?_
  simp only [Act.put, pu]
  refine pw_as (by rfl) rfl rfl ?_
  simp only [Act.put, pu]
  refine pw_nil ?_
  (repeat ((fail_if_success with_reducible refine rg ?_); go_step))
  refine wp_region_pw ?_
  refine pw_mv (by rfl) rfl rfl ?_
  simp only [Act.put, pu]
  refine pw_value (by rfl) (.bool true) (exec_neq_k .i64 _ _ _ _ rfl (1) (0) rfl rfl true (by rw [decide_eq_false (by decide)]; rfl)) ?_
  simp only [Act.put, pu]
  refine pw_mv (by rfl) rfl rfl ?_
  simp only [Act.put, pu]
  refine pw_skip (by rfl) ?_
  simp only [Act.put, pu]
  refine pw_skip (by rfl) ?_
  simp only [Act.put, pu]
  refine pw_skip (by rfl) ?_
  simp only [Act.put, pu]
  refine pw_skip (by rfl) ?_
  simp only [Act.put, pu]
  refine pw_skip (by rfl) ?_
  simp only [Act.put, pu]
  refine pw_skip (by rfl) ?_
  simp only [Act.put, pu]
  refine pw_pick (by rfl) true (v := .bool true) rfl rfl rfl ?_
  simp only [Act.put, pu]
  refine pw_mv (by rfl) rfl rfl ?_
  simp only [Act.put, pu]
  refine pw_skip (by rfl) ?_
  simp only [Act.put, pu]
  refine pw_skip (by rfl) ?_
  simp only [Act.put, pu]
  refine pw_skip (by rfl) ?_
  simp only [Act.put, pu]
  refine pw_pick (by rfl) true (v := .bool true) rfl rfl rfl ?_
  simp only [Act.put, pu]
  refine pw_nil ?_
  (repeat ((fail_if_success with_reducible refine rg ?_); go_step))
  refine wp_region_pw ?_
  refine pw_value (by rfl) (.pointer none) (fun _ => rfl) ?_
  simp only [Act.put, pu]
  refine pw_value (by rfl) (.int .i64 1) (fun _ => rfl) ?_
  simp only [Act.put, pu]
  refine pw_nil ?_
  go_wp2
  go_ret2
  exact ⟨rfl, sb⟩
set_option maxRecDepth 100000 in
set_option maxHeartbeats 2000000 in
theorem of_yes (n m : Int) (ak : Option Addr) (ck : Nat) (l : List Ky) (gk ok : Nat) (kcs : Array Value) (tk : TypeId) (az : Option Addr) (cz : Nat) (zs : List Int) (gz oz : Nat) (zcs : Array Value) (tz : TypeId) (w : World) (hk : ElsAt 1 w ak l.length (stC l) gk ok kcs tk) (hz : ElsAt 1 w az zs.length (inC zs) gz oz zcs tz) (hl : l.length ≤ 1000) (hzl : zs.length ≤ 1000) (h40 : ∀ j, j < l.length → (l.getD j []).length ≤ 16777216) (hyes : mayOf n m zs l = true) :
  Calls Try.prog 21 #[.int .i64 n, .int .i64 m, .slice ak l.length ck, .slice az zs.length cz] w fun e w' => ∃ g B, e = .returned (.tuple #[.pointer (some ⟨g, 0, none⟩), .int .i64 0]) ∧ SpAt w' w.heap.size g n m l (UFj zs zs.length) B ∧ Below w.heap.size w w' := by
 have HK : Hid (ElsAt 1 w ak l.length (stC l) gk ok kcs tk) := hk
 have HZ : Hid (ElsAt 1 w az zs.length (inC zs) gz oz zcs tz) := hz
 clear hk hz
 unfold mayOf at hyes
 rw [Bool.and_eq_true, Bool.and_eq_true, decide_eq_true_eq] at hyes
 obtain ⟨⟨⟨h1, h7, h2, h4⟩, hmu⟩, hkb⟩ := hyes
 have HS : Hid (Srt l) := keyB_srt hkb
 have HUS : Hid (∀ e, 0 ≤ UFj zs zs.length e ∧ UFj zs zs.length e ≤ 200) := fun e => by
  have h3 := hmu
  unfold muB at h3
  rw [Bool.and_eq_true, Bool.and_eq_true] at h3
  unfold UFj
  by_cases h5 : 1 ≤ e ∧ e ≤ (zs.length : Nat)
  ·rw [if_pos h5]
   have h6 := useB_at h3.1.2 (e - 1).toNat (by omega)
   have h8 := quo_le n m (((e - 1).toNat + 1 : Nat) : Int) h1 h7 h2 h4
   omega
  ·rw [if_neg h5]; omega
 have hcl := fun (x : Ky) (hx : x.length ≤ 16777216) w' => clone_any x w' hx
 have H40 : Hid (∀ j, j < l.length → (l.getD j []).length ≤ 16777216) := h40
 obtain ⟨is, hsi, hsz, hss, hsb⟩ := of_info info_str
 have q1 : ¬ 1 * is.size > 2 ^ 24 := by rw [hss]; decide
 have q2 : ¬ 1 * is.size = 0 := by rw [hss]; decide
 have ql := fun x => lit_str1 x is.size hss
 go_enter Try.func21, Try.ntmps21
 have sb := sbmk w
 (repeat ((fail_if_success with_reducible refine rg ?_); go_step))
 refine wp_region_pw ?_
 refine pw_value (by rfl) (.pointer none) (fun _ => rfl) ?_
 simp only [Act.put, pu]
 refine pw_value (by rfl) (.int .i64 0) (fun _ => rfl) ?_
 simp only [Act.put, pu]
 refine pw_nil ?_
 (repeat ((fail_if_success with_reducible refine rg ?_); go_step))
 refine wp_region_pw ?_
 refine pw_mv (by rfl) rfl rfl ?_
 simp only [Act.put, pu]
 refine pw_mv (by rfl) rfl rfl ?_
 simp only [Act.put, pu]
 refine pw_callE (by rfl) 9 _ _ rfl Try.func9 (by kernel_rfl) #[.int .i64 n, .int .i64 m] rfl (snew_yes n m _ h1 h7 h2 h4) ?_
 rintro _ z1002 ⟨g5, mb, rfl, n5, hmb, r5, hM, hb⟩
 refine ⟨_, rfl, ?_⟩
 simp only [Act.put, pu]
 have b5 := Nat.le_trans sb.size n5
 clear n5
 have k := Kept.ofBelow hb
 clear hb
 replace sb := sb.trans (k.below w.heap.size sb.size (by simp <;> omega))
 clear k
 refine pw_mv (by rfl) rfl rfl ?_
 simp only [Act.put, pu]
 refine pw_ext (by rfl) rfl rfl rfl ?_
 simp only [Act.put, pu]
 refine pw_ext (by rfl) rfl rfl rfl ?_
 simp only [Act.put, pu]
 refine pw_as (by rfl) rfl rfl ?_
 simp only [Act.put, pu]
 refine pw_as (by rfl) rfl rfl ?_
 simp only [Act.put, pu]
 refine pw_nil ?_
 have hMu := fun w' (r : Row w' g5 (sxC n m (.slice none 0 0) (.map (some mb))) 57) (hb : Below w.heap.size w w') => muse_any g5 n m _ _ az cz zs gz oz zcs tz (l.length : Nat) w' r (HZ.out.below hb) hzl h1 h7 h2 h4
 have hMk := fun w' (hb : Below w.heap.size w w') => mkno_any ak ck l gk ok kcs tk w' (HK.out.below hb) (by omega) h40
 rw [hmu] at hMu
 rw [hkb] at hMk
 (repeat ((fail_if_success with_reducible refine rg ?_); go_step))
 refine wp_region_pw ?_
 refine pw_mv (by rfl) rfl rfl ?_
 simp only [Act.put, pu]
 refine pw_value (by rfl) (.bool false) (exec_neq_k .i64 _ _ _ _ rfl (0) (0) rfl rfl false (by rw [decide_eq_true rfl]; rfl)) ?_
 simp only [Act.put, pu]
 refine pw_mv (by rfl) rfl rfl ?_
 simp only [Act.put, pu]
 refine pw_mv (by rfl) rfl rfl ?_
 simp only [Act.put, pu]
 refine pw_mv (by rfl) rfl rfl ?_
 simp only [Act.put, pu]
 refine pw_mv (by rfl) rfl rfl ?_
 simp only [Act.put, pu]
 refine pw_value (by rfl) (.int .i64 (l.length : Nat)) (exec_len_s 30 _ rfl (ak) (l.length) (ck) rfl sl_strs) ?_
 simp only [Act.put, pu]
 refine pw_callB (by rfl) 29 _ _ rfl Try.func29 (by kernel_rfl) #[.pointer (some ⟨g5, 0, none⟩), .slice az zs.length cz, .int .i64 (l.length : Nat)] rfl _ (hMu _ r5 sb) ?_
 intro z2007 k
 simp only [Act.put, pu]
 replace r5 := k.row r5 (by simp <;> omega)
 replace hM := hM.on k (by simp <;> omega)
 replace sb := sb.trans (k.below w.heap.size sb.size (by simp <;> omega))
 clear k
 refine pw_value (by rfl) (.bool false) (exec_not _ _ rfl true rfl) ?_
 simp only [Act.put, pu]
 refine pw_pick (by rfl) false (v := .bool false) rfl rfl rfl ?_
 simp only [Act.put, pu]
 refine pw_mv (by rfl) rfl rfl ?_
 simp only [Act.put, pu]
 refine pw_mv (by rfl) rfl rfl ?_
 simp only [Act.put, pu]
 refine pw_callB (by rfl) 30 _ _ rfl Try.func30 (by kernel_rfl) #[.slice ak l.length ck] rfl _ (hMk _ sb) ?_
 intro z2012 k
 simp only [Act.put, pu]
 replace r5 := k.row r5 (by simp <;> omega)
 replace hM := hM.on k (by simp <;> omega)
 replace sb := sb.trans (k.below w.heap.size sb.size (by simp <;> omega))
 clear k
 refine pw_value (by rfl) (.bool false) (exec_not _ _ rfl true rfl) ?_
 simp only [Act.put, pu]
 refine pw_pick (by rfl) false (v := .bool false) rfl rfl rfl ?_
 simp only [Act.put, pu]
 refine pw_nil ?_
 clear hMu hMk hmu hkb h40
 have hgm := hM.ne r5
 have hmb2 : w.heap.size ≤ mb := by omega
 (repeat ((fail_if_success with_reducible refine rg ?_); go_step))
 refine wp_region_pw ?_
 refine pw_mv (by rfl) rfl rfl ?_
 simp only [Act.put, pu]
 refine pw_value (by rfl) (.int .i64 (l.length : Nat)) (exec_len_s 30 _ rfl (ak) (l.length) (ck) rfl sl_strs) ?_
 simp only [Act.put, pu]
 refine pw_value (by rfl) (.int .i64 0) (fun _ => rfl) ?_
 simp only [Act.put, pu]
 refine pw_nil ?_
 go_wp2_with fail
 go_loopg [13, 39] l.length (fun x s13 s39 wr => ∃ (j : Nat) (kv : Value), j + x = l.length ∧ s39 = .int .i64 j ∧ Row wr g5 (sxC n m kv (.map (some mb))) 57 ∧ OwnS wr w.heap.size kv (l.take j) ∧ MapI wr mb (fun _ => 0) ∧ kv.ownBlock ≠ some g5 ∧ kv.ownBlock ≠ some mb ∧ Below w.heap.size w wr)
 case atStart => exact ⟨0, .slice none 0 0, by omega, rfl, r5, ⟨rfl, .inl ⟨rfl, rfl⟩⟩, hM, (fun h => by cases h), (fun h => by cases h), sb⟩
 case round =>
  clear sb r5 hM
  obtain ⟨j, kv, hj, rfl, r5, hO, hM, e5, em, sb⟩ := hrel
  cases gk with
  | zero =>
   have hj1 : ¬ (j : Int) < (l.length : Int) := by omega
   rw [List.take_of_length_le (by omega)] at hO
   have hjl : j ≤ 1000 := by omega
   clear hj hcl
   (repeat ((fail_if_success with_reducible refine rg ?_); go_step))
   refine wp_region_pw ?_
   refine pw_value (by rfl) (.bool false) (exec_lt_b _ _ _ _ rfl ((j : Nat)) ((l.length : Nat)) rfl rfl false (decide_eq_false hj1)) ?_
   simp only [Act.put, pu]
   refine pw_nil ?_
   (repeat ((fail_if_success with_reducible refine rg ?_); go_step))
   refine wp_region_pw ?_
   refine pw_mv (by rfl) rfl rfl ?_
   simp only [Act.put, pu]
   refine pw_value (by rfl) (.int .i64 (zs.length : Nat)) (exec_len_s 31 _ rfl (az) (zs.length) (cz) rfl sl_ints) ?_
   simp only [Act.put, pu]
   refine pw_value (by rfl) (.int .i64 0) (fun _ => rfl) ?_
   simp only [Act.put, pu]
   refine pw_nil ?_
   clear hj1 hjl
   go_wp2_with fail
   go_loopg [14, 15, 57] zs.length (fun x s14 s15 s57 wr => ∃ i : Nat, i + x = zs.length ∧ s57 = .int .i64 i ∧ Row wr g5 (sxC n m kv (.map (some mb))) 57 ∧ OwnS wr w.heap.size kv l ∧ MapI wr mb (UFj zs i) ∧ Below w.heap.size w wr)
   case atStart => exact ⟨0, by omega, rfl, r5, hO, by rw [UFj_zero]; exact hM, sb⟩
   case round =>
    clear sb r5 hM hO
    obtain ⟨i, hi, rfl, r5, hO, hM, sb⟩ := hrel
    cases gk with
    | zero =>
     obtain rfl : i = zs.length := by omega
     have hi1 : ¬ (zs.length : Int) < (zs.length : Int) := by omega
     clear hi
     obtain ⟨a9, c9, rfl⟩ := own_shape hO
     (repeat ((fail_if_success with_reducible refine rg ?_); go_step))
     refine wp_region_pw ?_
     refine pw_value (by rfl) (.bool false) (exec_lt_b _ _ _ _ rfl ((zs.length : Nat)) ((zs.length : Nat)) rfl rfl false (decide_eq_false hi1)) ?_
     simp only [Act.put, pu]
     refine pw_nil ?_
     (repeat ((fail_if_success with_reducible refine rg ?_); go_step))
     refine wp_region_pw ?_
     refine pw_mv (by rfl) rfl rfl ?_
     simp only [Act.put, pu]
     refine pw_as (by rfl) rfl rfl ?_
     simp only [Act.put, pu]
     refine pw_value (by rfl) (.int .i64 0) (fun _ => rfl) ?_
     simp only [Act.put, pu]
     refine pw_nil ?_
     go_wp2
     go_ret2
     exact ⟨g5, rfl, ⟨_, ⟨⟨mb, a9, c9, r5, hO, hM, b5, hmb2, e5, em, rfl⟩, ⟨⟨h1, h7⟩, h2, h4⟩, HS.out, HUS.out⟩⟩, sb⟩
    | succ y =>
     have hlt : i < zs.length := by omega
     have hi1 : (i : Int) < (zs.length : Int) := by omega
     obtain h0 | ⟨rfl, rB, hbt⟩ := (HZ.out.below sb).at'
     ·exact absurd h0 (by omega)
     obtain ⟨z, hzx⟩ : ∃ z, zs.getD i 0 = z := ⟨_, rfl⟩
     have HX : Hid (zs.getD i 0 = z) := hzx
     have hbx : zcs[oz + i * 1]? = some (.int .i64 z) := by rw [← hzx]; exact hbt i hlt 0 _ rfl
     clear hbt hzx
     (repeat ((fail_if_success with_reducible refine rg ?_); go_step))
     refine wp_region_pw ?_
     refine pw_value (by rfl) (.bool true) (exec_lt_b _ _ _ _ rfl ((i : Nat)) ((zs.length : Nat)) rfl rfl true (decide_eq_true hi1)) ?_
     simp only [Act.put, pu]
     refine pw_nil ?_
     (repeat ((fail_if_success with_reducible refine rg ?_); go_step))
     refine wp_region_pw ?_
     refine pw_mv (by rfl) rfl rfl ?_
     simp only [Act.put, pu]
     refine pw_value (by rfl) (.pointer (some ⟨gz, oz + i * 1, none⟩)) ((exec_index_s 31 _ _ rfl (gz) (oz) (zs.length) (cz) rfl (i) rfl (hlt) _ Try.underlying31 1 Try.sizeOf3)) ?_
     simp only [Act.put, pu]
     refine pw_loadk (by rfl) 3 _ rfl _ (oz + i * 1) rfl rB (.int .i64 z) hbx Try.isAgg3 ?_
     simp only [Act.put, pu]
     refine pw_as (by rfl) rfl rfl ?_
     simp only [Act.put, pu]
     refine pw_as (by rfl) rfl rfl ?_
     simp only [Act.put, pu]
     refine pw_nil ?_
     clear rB
     (repeat ((fail_if_success with_reducible refine rg ?_); go_step))
     refine wp_region_pw ?_
     refine pw_mv (by rfl) rfl rfl ?_
     simp only [Act.put, pu]
     refine pw_value (by rfl) (.pointer (some ⟨g5, 0, none⟩)) (exec_nil _ rfl g5 (0) rfl) ?_
     simp only [Act.put, pu]
     refine pw_value (by rfl) (.pointer (some ⟨g5, 3, none⟩)) (exec_field 57 _ 3 rfl g5 0 rfl _ Try.underlying57 _ rfl 0 Try.sizeOf55) ?_
     simp only [Act.put, pu]
     refine pw_loadk (by rfl) 55 _ rfl _ (3) rfl r5.r (.map (some mb)) rfl Try.isAgg55 ?_
     simp only [Act.put, pu]
     refine pw_mv (by rfl) rfl rfl ?_
     simp only [Act.put, pu]
     refine pw_value (by rfl) (.int .i64 (((i + 1 : Nat) : Int))) (x_addz _ _ _ _ rfl ((i : Nat)) (1) (((i + 1 : Nat) : Int)) rfl rfl (by omega) (by omega) (by omega)) ?_
     simp only [Act.put, pu]
     refine pw_mv (by rfl) rfl rfl ?_
     simp only [Act.put, pu]
     refine pw_mput (by rfl) 55 3 3 _ _ _ rfl rfl ((i + 1 : Nat) : Int) rfl z rfl Try.underlying55 Try.underlying3 hM ?_
     intro zM hM4 k9
     simp only [Act.put]
     replace r5 := k9.row r5 (by simp; exact hgm)
     replace hO := hO.on k9 (own_ne1 em)
     replace sb := sb.trans (k9.below w.heap.size sb.size (by simp; exact hmb2))
     refine pw_nil ?_
     replace hM := hM4
     rw [← HX.out, UFj_step] at hM
     clear k9 hM4
     (repeat ((fail_if_success with_reducible refine rg ?_); go_step))
     refine wp_region_pw ?_
     refine pw_value (by rfl) (.int .i64 (((i + 1 : Nat) : Int))) (x_addz _ _ _ _ rfl ((i : Nat)) (1) (((i + 1 : Nat) : Int)) rfl rfl (by omega) (by omega) (by omega)) ?_
     simp only [Act.put, pu]
     refine pw_mv (by rfl) rfl rfl ?_
     simp only [Act.put, pu]
     refine pw_nil ?_
     go_wp2
     go_roundg y
     case measure => omega
     case rel => exact ⟨i + 1, by omega, rfl, r5, hO, hM, sb⟩
  | succ y =>
   have hlt : j < l.length := by omega
   have hj1 : (j : Int) < (l.length : Int) := by omega
   obtain h0 | ⟨rfl, rB, hbt⟩ := (HK.out.below sb).at'
   ·exact absurd h0 (by omega)
   obtain ⟨x, hx⟩ : ∃ x, l.getD j [] = x := ⟨_, rfl⟩
   have hts := take_snoc hlt
   rw [hx] at hts
   have hx40 := H40.out j hlt
   rw [hx] at hx40
   have hbx : kcs[ok + j * 1]? = some (.string ⟨x.toArray⟩) := by rw [← hx]; exact hbt j hlt 0 _ rfl
   have hcl := hcl x hx40
   have hlt2 : (l.take j).length = j := by rw [List.length_take]; omega
   have HTS : Hid (l.take (j + 1) = l.take j ++ [x]) := hts
   have HTL : Hid ((l.take j).length = j) := hlt2
   have htl : (l.take j).length ≤ 1000 := by omega
   clear hbt hx hts hlt2
   (repeat ((fail_if_success with_reducible refine rg ?_); go_step))
   refine wp_region_pw ?_
   refine pw_value (by rfl) (.bool true) (exec_lt_b _ _ _ _ rfl ((j : Nat)) ((l.length : Nat)) rfl rfl true (decide_eq_true hj1)) ?_
   simp only [Act.put, pu]
   refine pw_nil ?_
   (repeat ((fail_if_success with_reducible refine rg ?_); go_step))
   refine wp_region_pw ?_
   refine pw_value (by rfl) (.pointer (some ⟨gk, ok + j * 1, none⟩)) ((exec_index_s 30 _ _ rfl (gk) (ok) (l.length) (ck) rfl (j) rfl (hlt) _ Try.underlying30 1 Try.sizeOf9)) ?_
   simp only [Act.put, pu]
   refine pw_loadk (by rfl) 9 _ rfl _ (ok + j * 1) rfl rB (.string ⟨x.toArray⟩) hbx Try.isAgg9 ?_
   simp only [Act.put, pu]
   refine pw_as (by rfl) rfl rfl ?_
   simp only [Act.put, pu]
   refine pw_nil ?_
   clear rB
   (repeat ((fail_if_success with_reducible refine rg ?_); go_step))
   refine wp_region_ot (by kernel_rfl) (fun z => Kept kv.ownBlock.toList wr z) (fun _ _ u1 u2 => u1.trans (Kept.ofBelow u2) (by simp)) (Kept.refl _ _) [11] (.leaf [(0, false), (1, false), (2, false), (3, false), (4, false), (5, false), (6, false), (9, false), (10, false), (7, true), (8, true), (11, true)]) ?_ (by kernel_rfl)
   show EW _ _ _ _ _ _ _ _
   refine ew_mv (by rfl) rfl rfl ?_
   simp only [Act.put, pu]
   refine ew_mv (by rfl) rfl rfl ?_
   simp only [Act.put, pu]
   refine ew_value (by rfl) (.pointer (some ⟨g5, 0, none⟩)) (exec_nil _ rfl g5 (0) rfl) ?_
   simp only [Act.put, pu]
   refine ew_value (by rfl) (.pointer (some ⟨g5, 2, none⟩)) (exec_field 57 _ 2 rfl g5 0 rfl _ Try.underlying57 _ rfl 0 Try.sizeOf30) ?_
   simp only [Act.put, pu]
   refine ew_loadk (by rfl) 30 _ rfl _ 2 rfl (fun _ hk => (hk.row r5 (own_nin e5)).r) kv rfl Try.isAgg30 ?_
   simp only [Act.put, pu]
   refine ew_mv (by rfl) rfl rfl ?_
   simp only [Act.put, pu]
   refine ew_call (by rfl) 26 _ _ rfl Try.func26 (by kernel_rfl) #[.string ⟨x.toArray⟩] rfl _ (fun w' _ => hcl w') ?_
   simp only [Act.put, pu]
   refine ew_value (by rfl) (.pointer (some ⟨g5, 0, none⟩)) (exec_nil _ rfl g5 (0) rfl) ?_
   simp only [Act.put, pu]
   refine ew_value (by rfl) (.pointer (some ⟨g5, 2, none⟩)) (exec_field 57 _ 2 rfl g5 0 rfl _ Try.underlying57 _ rfl 0 Try.sizeOf30) ?_
   simp only [Act.put, pu]
   refine ew_litr (by rfl) 30 9 1 _ rfl #[strV x] is _ Try.underlying30 hsi hsz q1 q2 [(0, .string ⟨x.toArray⟩)] rfl (ql x) ?_
   intro wa hqa gL wb nL rL hb
   refine ⟨fun _ => (Kept.ofBelow (below_on hqa (Nat.le_refl _) hb)).more (by simp), ?_⟩
   simp only [Act.put, pu]
   have kb := below_on hqa (Nat.le_refl _) hb
   replace hO := hO.below kb
   refine ew_app1 (by rfl) _ _ (30) rfl w.heap.size 9 is _ 1 16 Try.underlying30 hsi hsz hss hsb rfl (by decide) kv (l.take j).length ((l.take j).map strV) rfl hO gL 1 rfl rL rfl (by simp [strV, Value.oneCell']) (by unfold maxLen; omega) (by omega) (Nat.le_trans sb.size kb.size) ?_
   intro wc hqc kv2 wd hO2 hkk hp2
   replace hkk : Kept kv.ownBlock.toList wr wd := ((Kept.ofBelow (below_on kb (Nat.le_refl _) hqc)).more (by simp)).trans hkk (fun g hg => .inl hg)
   have c5 := Nat.lt_of_lt_of_le r5.lt (Nat.le_trans kb.size hqc.size)
   have cm := Nat.lt_of_lt_of_le hM.lt (Nat.le_trans kb.size hqc.size)
   have e5b := own_apart hp2 c5 e5
   have emb := own_apart hp2 cm em
   replace r5 := hkk.row r5 (own_nin e5)
   replace hM := hM.on hkk (own_nin em)
   refine ⟨fun _ => hkk, ?_⟩
   simp only [Act.put, pu]
   obtain ⟨a9, c9, e9⟩ := own_shape hO2
   replace hO2 := ownS_snoc (x := x) hO2 rfl rfl
   replace sb := sb.trans (hkk.below _ sb.size (fun g hg => own_base hO g hg))
   refine ew_putv (by rfl) 30 _ _ rfl g5 2 rfl r5 kv2 rfl (one_v1 e9).1 (one_v1 e9).2.1 size_strs (by rw [sxC_size]; omega) (sxC n m kv2 (.map (some mb))) rfl ?_
   intro we hqe wf r5n k5
   refine ⟨fun h => (by cases h), ?_⟩
   simp only [Act.put]
   replace hO2 := (hO2.below hqe).on k5 (own_ne1 e5b)
   replace hM := (hM.below hqe).on k5 (by simp; exact fun e3 => hgm e3.symm)
   replace sb := (below_on sb (Nat.le_refl _) hqe).trans (k5.below _ (Nat.le_trans sb.size hqe.size) (by simp; exact b5))
   refine ew_nil ?_
   intro wg hqg
   replace hO2 := hO2.below hqg
   replace hM := hM.below hqg
   replace r5 := r5n.belowAll hqg
   replace sb := below_on sb (Nat.le_refl _) hqg
   clear r5n k5 hqg hqe hkk hp2 hO rL hb kb hqa hqc
   (repeat ((fail_if_success with_reducible refine rg ?_); go_step))
   refine wp_region_pw ?_
   refine pw_value (by rfl) (.int .i64 (((j + 1 : Nat) : Int))) (x_addz _ _ _ _ rfl ((j : Nat)) (1) (((j + 1 : Nat) : Int)) rfl rfl (by omega) (by omega) (by omega)) ?_
   simp only [Act.put, pu]
   refine pw_mv (by rfl) rfl rfl ?_
   simp only [Act.put, pu]
   refine pw_nil ?_
   go_wp2
   go_roundg y
   case measure => omega
   case rel => exact ⟨j + 1, kv2, by omega, rfl, r5, by rw [HTS.out]; exact hO2, hM, e5b, emb, sb⟩
end Go.Proofs.Ytchiiphmpkmloaa
