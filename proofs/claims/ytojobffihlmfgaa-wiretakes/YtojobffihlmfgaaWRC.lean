/- wire's source: bytes that are read. -/
import Derived.Test.YtojobffihlmfgaaWRB
import Derived.Test.YtojobffihlmfgaaSI
import Derived.Test.YtojobffihlmfgaaWRA
import Derived.Test.YtojobffihlmfgaaMXR
import Derived.Test.YtojobffihlmfgaaBT
namespace Go.Proofs.Ytojobffihlmfgaa
open Go.RowKit
set_option linter.unusedVariables false
set_option linter.unusedSimpArgs false
theorem info_so : (Try.prog.info? 64).map (fun i => (i.zero, i.size)) = some (some (.agg #[.string ⟨#[]⟩]), 1) := by kernel_rfl
theorem zero_so (w : World) : (zeroValue 64).run Try.prog w = .ok (.agg #[.string ⟨#[]⟩]) w := (zero_of_info info_so).1 w
theorem size_so : (Try.prog.info? 64).map (·.size) = some 1 := (zero_of_info info_so).2
theorem so_one (l : List UInt8) : (#[.string ⟨l.toArray⟩] : Array Value).all (·.oneCell') = true := by simp [Value.oneCell']
theorem built_so (l : List UInt8) : Try.prog.built 64 [(0, .string ⟨l.toArray⟩)] = some #[.string ⟨l.toArray⟩] := by kernel_rfl
theorem w_ri (n : Nat) (h : n < 256) : IntKind.i64.wrap (n : Int) = (n : Int) := by rw [IntKind.wrap_i64]; omega
/-- The number that bytes say, the highest first. -/
def nuV : List UInt8 → Nat → Nat
 | _, 0 => 0
 | l, k + 1 => nuV l k * 256 + bf l k
theorem nuV_lt (l : List UInt8) : ∀ k, nuV l k < 256 ^ k
 | 0 => Nat.one_pos
 | k + 1 => by
  have h1 := nuV_lt l k
  have h2 := bf_lt l k
  show nuV l k * 256 + bf l k < 256 ^ k * 256
  omega
theorem or_add (a b : Nat) (hb : b < 256) : a * 256 ||| b = a * 256 + b := by
 have := Nat.two_pow_add_eq_or_of_lt (i := 8) hb a
 rw [Nat.mul_comm a 256]
 exact this.symm
set_option maxRecDepth 100000 in
set_option maxHeartbeats 2000000 in
theorem stake_ok (L : List UInt8) (c g0 : Nat) (w : World) (r0 : Row w g0 #[.string ⟨L.toArray⟩] 64) (h : c ≤ L.length) :
  Calls Try.prog 57 #[.pointer (some ⟨g0, 0, none⟩), .int .i64 (c : Nat)] w fun e w' => e = .returned (.string ⟨(L.take c).toArray⟩) ∧ Row w' g0 #[.string ⟨(L.drop c).toArray⟩] 64 ∧ Kept [g0] w w' := by
 have sk := Kept.refl [g0] w
 have l0 := r0.lt
 go_enter Try.func57, Try.ntmps57
 (repeat ((fail_if_success with_reducible refine rg ?_); go_step))
 refine wp_region_pw ?_
 refine pw_move (by rfl) (.inr rfl) rfl ?_
 simp only [Act.put, pu]
 refine pw_nil ?_
 (repeat ((fail_if_success with_reducible refine rg ?_); go_step))
 refine wp_region_pw ?_
 refine pw_mv (by rfl) rfl rfl ?_
 simp only [Act.put, pu]
 refine pw_mv (by rfl) rfl rfl ?_
 simp only [Act.put, pu]
 refine pw_value (by rfl) (.pointer (some ⟨g0, 0, none⟩)) (exec_nil _ rfl g0 0 rfl) ?_
 simp only [Act.put, pu]
 refine pw_value (by rfl) (.pointer (some ⟨g0, 0, none⟩)) (exec_field 64 _ 0 rfl g0 0 rfl _ Try.underlying64 _ rfl 0 Try.sizeOf9) ?_
 simp only [Act.put, pu]
 refine pw_loadk (by rfl) 9 _ rfl _ (0) rfl r0.r (.string ⟨L.toArray⟩) rfl Try.isAgg9 ?_
 simp only [Act.put, pu]
 refine pw_value (by rfl) (.int .i64 (L.length : Nat)) (y_lenS _ _ rfl L rfl Try.underlying9) ?_
 simp only [Act.put, pu]
 refine pw_value (by rfl) (.bool true) (w_le _ _ _ _ rfl (c : Nat) (L.length : Nat) rfl rfl true (decide_eq_true (by omega))) ?_
 simp only [Act.put, pu]
 refine pw_callB (by rfl) 24 _ _ rfl Try.func24 (by kernel_rfl) #[.bool true, .int .i64 4] rfl _ (insist_any true 4 _) ?_
 intro z1007 k
 simp only [Act.put, pu]
 replace r0 := k.row r0 (by simp <;> omega)
 replace sk := sk.trans k (by simp <;> omega)
 clear k
 refine pw_nil ?_
 (repeat ((fail_if_success with_reducible refine rg ?_); go_step))
 refine wp_region_pw ?_
 refine pw_mv (by rfl) rfl rfl ?_
 simp only [Act.put, pu]
 refine pw_value (by rfl) (.pointer (some ⟨g0, 0, none⟩)) (exec_nil _ rfl g0 0 rfl) ?_
 simp only [Act.put, pu]
 refine pw_value (by rfl) (.pointer (some ⟨g0, 0, none⟩)) (exec_field 64 _ 0 rfl g0 0 rfl _ Try.underlying64 _ rfl 0 Try.sizeOf9) ?_
 simp only [Act.put, pu]
 refine pw_loadk (by rfl) 9 _ rfl _ (0) rfl r0.r (.string ⟨L.toArray⟩) rfl Try.isAgg9 ?_
 simp only [Act.put, pu]
 refine pw_mv (by rfl) rfl rfl ?_
 simp only [Act.put, pu]
 refine pw_value (by rfl) (.string ⟨(L.take c).toArray⟩) (y_upto _ _ _ Try.underlying9 rfl L c rfl rfl h) ?_
 simp only [Act.put, pu]
 refine pw_as (by rfl) rfl rfl ?_
 simp only [Act.put, pu]
 refine pw_nil ?_
 (repeat ((fail_if_success with_reducible refine rg ?_); go_step))
 refine wp_region_pw ?_
 refine pw_mv (by rfl) rfl rfl ?_
 simp only [Act.put, pu]
 refine pw_mv (by rfl) rfl rfl ?_
 simp only [Act.put, pu]
 refine pw_value (by rfl) (.pointer (some ⟨g0, 0, none⟩)) (exec_nil _ rfl g0 0 rfl) ?_
 simp only [Act.put, pu]
 refine pw_value (by rfl) (.pointer (some ⟨g0, 0, none⟩)) (exec_field 64 _ 0 rfl g0 0 rfl _ Try.underlying64 _ rfl 0 Try.sizeOf9) ?_
 simp only [Act.put, pu]
 refine pw_loadk (by rfl) 9 _ rfl _ (0) rfl r0.r (.string ⟨L.toArray⟩) rfl Try.isAgg9 ?_
 simp only [Act.put, pu]
 refine pw_mv (by rfl) rfl rfl ?_
 simp only [Act.put, pu]
 refine pw_value (by rfl) (.string ⟨(L.drop c).toArray⟩) (y_from _ _ _ Try.underlying9 rfl L c rfl rfl h) ?_
 simp only [Act.put, pu]
 refine pw_value (by rfl) (.pointer (some ⟨g0, 0, none⟩)) (exec_nil _ rfl g0 0 rfl) ?_
 simp only [Act.put, pu]
 refine pw_value (by rfl) (.pointer (some ⟨g0, 0, none⟩)) (exec_field 64 _ 0 rfl g0 0 rfl _ Try.underlying64 _ rfl 0 Try.sizeOf9) ?_
 simp only [Act.put, pu]
 refine pw_putv (by rfl) 9 _ _ rfl _ (0) rfl r0 (.string ⟨(L.drop c).toArray⟩) rfl rfl rfl size1tstring (by exact Nat.one_pos) (#[.string ⟨(L.drop c).toArray⟩]) rfl ?_
 clear r0
 intro z3009 r0 k
 simp only [Act.put]
 replace sk := sk.trans k (by simp <;> omega)
 clear k
 refine pw_nil ?_
 (repeat ((fail_if_success with_reducible refine rg ?_); go_step))
 refine wp_region_pw ?_
 refine pw_mv (by rfl) rfl rfl ?_
 simp only [Act.put, pu]
 refine pw_as (by rfl) rfl rfl ?_
 simp only [Act.put, pu]
 refine pw_nil ?_
 go_wp2
 go_ret
 exact ⟨rfl, r0, sk⟩
set_option maxRecDepth 100000 in
set_option maxHeartbeats 2000000 in
theorem stake_no (L : List UInt8) (c g0 : Nat) (w : World) (r0 : Row w g0 #[.string ⟨L.toArray⟩] 64) (h : L.length < c) :
  Calls Try.prog 57 #[.pointer (some ⟨g0, 0, none⟩), .int .i64 (c : Nat)] w fun e w' => e = .panicked (wrP 4) ∧ Kept [g0] w w' := by
 have sk := Kept.refl [g0] w
 have l0 := r0.lt
 go_enter Try.func57, Try.ntmps57
 (repeat ((fail_if_success with_reducible refine rg ?_); go_step))
 refine wp_region_pw ?_
 refine pw_move (by rfl) (.inr rfl) rfl ?_
 simp only [Act.put, pu]
 refine pw_nil ?_
 (repeat ((fail_if_success with_reducible refine rg ?_); go_step))
 refine wp_region_pw ?_
 refine pw_mv (by rfl) rfl rfl ?_
 simp only [Act.put, pu]
 refine pw_mv (by rfl) rfl rfl ?_
 simp only [Act.put, pu]
 refine pw_value (by rfl) (.pointer (some ⟨g0, 0, none⟩)) (exec_nil _ rfl g0 0 rfl) ?_
 simp only [Act.put, pu]
 refine pw_value (by rfl) (.pointer (some ⟨g0, 0, none⟩)) (exec_field 64 _ 0 rfl g0 0 rfl _ Try.underlying64 _ rfl 0 Try.sizeOf9) ?_
 simp only [Act.put, pu]
 refine pw_loadk (by rfl) 9 _ rfl _ (0) rfl r0.r (.string ⟨L.toArray⟩) rfl Try.isAgg9 ?_
 simp only [Act.put, pu]
 refine pw_value (by rfl) (.int .i64 (L.length : Nat)) (y_lenS _ _ rfl L rfl Try.underlying9) ?_
 simp only [Act.put, pu]
 refine pw_value (by rfl) (.bool false) (w_le _ _ _ _ rfl (c : Nat) (L.length : Nat) rfl rfl false (decide_eq_false (by omega))) ?_
 simp only [Act.put, pu]
 refine pw_callP (by rfl) 24 _ _ rfl Try.func24 (by kernel_rfl) #[.bool false, .int .i64 4] rfl (insist_any false 4 _) ?_
 intro z1007 hb
 exact ⟨rfl, rfl, sk.trans (Kept.ofBelow hb) (by simp)⟩
set_option maxRecDepth 100000 in
set_option maxHeartbeats 2000000 in
theorem snum_ok (L : List UInt8) (s g0 : Nat) (w : World) (r0 : Row w g0 #[.string ⟨L.toArray⟩] 64) (hs : 1 ≤ s) (hs6 : s ≤ 6) (h : s ≤ L.length) :
  Calls Try.prog 30 #[.pointer (some ⟨g0, 0, none⟩), .int .i64 (s : Nat)] w fun e w' => e = .returned (.int .i64 (nuV (L.take s) s : Nat)) ∧ Row w' g0 #[.string ⟨(L.drop s).toArray⟩] 64 ∧ Kept [g0] w w' := by
 have sk := Kept.refl [g0] w
 have l0 := r0.lt
 have hTl : (L.take s).length = s := by rw [List.length_take]; omega
 have HV : Hid (∀ k, k ≤ s → nuV (L.take s) k < 281474976710656) := fun k hk => Nat.lt_of_lt_of_le (nuV_lt _ k) (by
  have : 256 ^ k ≤ 256 ^ 6 := Nat.pow_le_pow_right (by decide) (by omega)
  omega)
 have hst := fun w' (r : Row w' g0 #[.string ⟨L.toArray⟩] 64) => stake_ok L s g0 w' r h
 obtain ⟨T, hT0⟩ : ∃ T, L.take s = T := ⟨_, rfl⟩
 rw [hT0] at hTl HV hst ⊢
 clear hT0
 obtain ⟨D, hD0⟩ : ∃ D, L.drop s = D := ⟨_, rfl⟩
 rw [hD0] at hst ⊢
 clear hD0
 go_enter Try.func30, Try.ntmps30
 (repeat ((fail_if_success with_reducible refine rg ?_); go_step))
 refine wp_region_pw ?_
 refine pw_value (by rfl) (.int .i64 0) (fun _ => rfl) ?_
 simp only [Act.put, pu]
 refine pw_nil ?_
 (repeat ((fail_if_success with_reducible refine rg ?_); go_step))
 refine wp_region_pw ?_
 refine pw_value (by rfl) (.int .i64 0) (fun _ => rfl) ?_
 simp only [Act.put, pu]
 refine pw_nil ?_
 (repeat ((fail_if_success with_reducible refine rg ?_); go_step))
 refine wp_region_pw ?_
 refine pw_mv (by rfl) rfl rfl ?_
 simp only [Act.put, pu]
 refine pw_mv (by rfl) rfl rfl ?_
 simp only [Act.put, pu]
 refine pw_callE (by rfl) 57 _ _ rfl Try.func57 (by kernel_rfl) #[.pointer (some ⟨g0, 0, none⟩), .int .i64 (s : Nat)] rfl (hst _ r0) ?_
 have cr0 := r0.lt
 clear r0
 rintro _ z2002 ⟨rfl, r0, k⟩
 refine ⟨_, rfl, ?_⟩
 simp only [Act.put, pu]
 clear cr0
 replace sk := sk.trans k (by simp <;> omega)
 clear k
 refine pw_conv (by rfl) _ rfl T rfl w.heap.size sk.size (by unfold maxLen; omega) ?_
 intro v11 z11 own hb
 simp only [Act.put, pu]
 replace r0 := r0.belowAll hb
 replace sk := sk.trans (Kept.ofBelow hb) (by simp)
 clear hb
 rcases own with ⟨_, hx⟩ | ⟨gV, cap, cur, fr, rfl, hbg, hgV, hlc, hcm, hcs, hcl, _⟩
 ·rw [hx] at hTl; exact absurd hTl (by simp; omega)
 rw [hTl] at hcl hlc ⊢
 have rV : RowR z11 gV cur 5 := ⟨fr, hgV⟩
 clear hgV
 refine pw_value (by rfl) (.int .i64 (s : Nat)) (exec_len_s 81 _ rfl (some ⟨gV, 0, none⟩) s cap rfl Try.underlying81) ?_
 simp only [Act.put, pu]
 refine pw_value (by rfl) (.int .i64 0) (fun _ => rfl) ?_
 simp only [Act.put, pu]
 refine pw_nil ?_
 have H0 := r0
 have H1 := sk
 have H2 := rV
 have hgn : gV ≠ g0 := by omega
 clear r0 sk rV hst
 go_wp2_with fail
 go_loopg [5, 7, 13] s (fun x s5 s7 s13 wr => ∃ i : Nat, i + x = s ∧ s13 = .int .i64 i ∧ s5 = .int .i64 (nuV T i : Nat) ∧ Row wr g0 #[.string ⟨D.toArray⟩] 64 ∧ RowR wr gV cur 5 ∧ Kept [g0] w wr)
 case atStart => exact ⟨0, by omega, rfl, rfl, H0, H2, H1⟩
 case round =>
  clear H0 H1 H2
  obtain ⟨i, hi, rfl, rfl, r0, rV, sk⟩ := hrel
  cases gk with
  | zero =>
   obtain rfl : i = s := by omega
   clear hi
   (repeat ((fail_if_success with_reducible refine rg ?_); go_step))
   refine wp_region_pw ?_
   refine pw_value (by rfl) (.bool false) (exec_lt_b _ _ _ _ rfl i i rfl rfl false (decide_eq_false (Int.lt_irrefl _))) ?_
   simp only [Act.put, pu]
   refine pw_nil ?_
   (repeat ((fail_if_success with_reducible refine rg ?_); go_step))
   refine wp_region_pw ?_
   refine pw_mv (by rfl) rfl rfl ?_
   simp only [Act.put, pu]
   refine pw_as (by rfl) rfl rfl ?_
   simp only [Act.put, pu]
   refine pw_nil ?_
   go_wp2
   go_ret
   exact ⟨rfl, r0, sk⟩
  | succ x =>
   have hv1 := HV.out i (by omega)
   have hv2 := HV.out (i + 1) (by omega)
   have hb8 := bf_lt T i
   have hci := hcl i (by omega)
   have eV : nuV T (i + 1) = nuV T i * 256 + bf T i := rfl
   have eO := or_add (nuV T i) (bf T i) hb8
   rw [← eV] at eO
   clear eV
   generalize hV2 : nuV T (i + 1) = V2 at *
   generalize nuV T i = V1 at *
   generalize bf T i = b1 at *
   (repeat ((fail_if_success with_reducible refine rg ?_); go_step))
   refine wp_region_pw ?_
   refine pw_value (by rfl) (.bool true) (exec_lt_b _ _ _ _ rfl i s rfl rfl true (decide_eq_true (by omega))) ?_
   simp only [Act.put, pu]
   refine pw_nil ?_
   (repeat ((fail_if_success with_reducible refine rg ?_); go_step))
   refine wp_region_pw ?_
   refine pw_value (by rfl) (.pointer (some ⟨gV, i, none⟩)) (x_idxS _ _ _ rfl gV 0 s cap rfl i rfl (by omega) _ Try.underlying81 Try.sizeOf5 i (Nat.zero_add i)) ?_
   simp only [Act.put, pu]
   refine pw_loadk (by rfl) 5 _ rfl _ (i) rfl rV (.int .u8 (b1 : Nat)) hci Try.isAgg5 ?_
   simp only [Act.put, pu]
   refine pw_as (by rfl) rfl rfl ?_
   simp only [Act.put, pu]
   refine pw_nil ?_
   (repeat ((fail_if_success with_reducible refine rg ?_); go_step))
   refine wp_region_pw ?_
   refine pw_mv (by rfl) rfl rfl ?_
   simp only [Act.put, pu]
   refine pw_value (by rfl) (.int .i64 (V1 * 256 : Nat)) (xi_shl _ _ _ _ rfl V1 8 .u64 rfl rfl (by decide) (by omega)) ?_
   simp only [Act.put, pu]
   refine pw_mv (by rfl) rfl rfl ?_
   simp only [Act.put, pu]
   refine pw_value (by rfl) (.int .i64 (b1 : Nat)) (x_conv _ _ _ rfl .u8 .i64 Try.underlying5 Try.underlying3 (b1 : Nat) _ rfl (w_ri _ hb8)) ?_
   simp only [Act.put, pu]
   refine pw_value (by rfl) (.int .i64 (V2 : Nat)) (fun w' => (xi_or _ _ _ _ rfl (V1 * 256) b1 rfl rfl (by omega) (by omega) w').trans (by rw [eO])) ?_
   simp only [Act.put, pu]
   refine pw_as (by rfl) rfl rfl ?_
   simp only [Act.put, pu]
   refine pw_nil ?_
   clear hv1 hv2 hb8 hci eO
   (repeat ((fail_if_success with_reducible refine rg ?_); go_step))
   refine wp_region_pw ?_
   refine pw_value (by rfl) (.int .i64 (i + 1 : Nat)) (xi_add _ _ _ _ rfl i 1 rfl rfl (by omega)) ?_
   simp only [Act.put, pu]
   refine pw_mv (by rfl) rfl rfl ?_
   simp only [Act.put, pu]
   refine pw_nil ?_
   go_wp2
   go_roundg x
   case rel => exact ⟨i + 1, by omega, rfl, by rw [hV2], r0, rV, sk⟩
   case measure => omega
set_option maxRecDepth 100000 in
set_option maxHeartbeats 2000000 in
theorem stext_ok (L : List UInt8) (s c g0 : Nat) (w : World) (r0 : Row w g0 #[.string ⟨L.toArray⟩] 64) (hs : 1 ≤ s) (hs6 : s ≤ 6) (h : s ≤ L.length) (hc : nuV (L.take s) s = c) (h2 : c ≤ (L.drop s).length) :
  Calls Try.prog 31 #[.pointer (some ⟨g0, 0, none⟩), .int .i64 (s : Nat)] w fun e w' => e = .returned (.string ⟨((L.drop s).take c).toArray⟩) ∧ Row w' g0 #[.string ⟨((L.drop s).drop c).toArray⟩] 64 ∧ Kept [g0] w w' := by
 have sk := Kept.refl [g0] w
 have l0 := r0.lt
 have hn := fun w' (r : Row w' g0 #[.string ⟨L.toArray⟩] 64) => snum_ok L s g0 w' r hs hs6 h
 rw [hc] at hn
 go_enter Try.func31, Try.ntmps31
 (repeat ((fail_if_success with_reducible refine rg ?_); go_step))
 refine wp_region_pw ?_
 refine pw_move (by rfl) (.inr rfl) rfl ?_
 simp only [Act.put, pu]
 refine pw_nil ?_
 (repeat ((fail_if_success with_reducible refine rg ?_); go_step))
 refine wp_region_pw ?_
 refine pw_mv (by rfl) rfl rfl ?_
 simp only [Act.put, pu]
 refine pw_mv (by rfl) rfl rfl ?_
 simp only [Act.put, pu]
 refine pw_mv (by rfl) rfl rfl ?_
 simp only [Act.put, pu]
 refine pw_callE (by rfl) 30 _ _ rfl Try.func30 (by kernel_rfl) #[.pointer (some ⟨g0, 0, none⟩), .int .i64 (s : Nat)] rfl (hn _ r0) ?_
 have cr0 := r0.lt
 clear r0
 rintro _ z1003 ⟨rfl, r0, k⟩
 refine ⟨_, rfl, ?_⟩
 simp only [Act.put, pu]
 clear cr0
 replace sk := sk.trans k (by simp <;> omega)
 clear k
 refine pw_callE (by rfl) 57 _ _ rfl Try.func57 (by kernel_rfl) #[.pointer (some ⟨g0, 0, none⟩), .int .i64 (c : Nat)] rfl (stake_ok (L.drop s) c g0 _ r0 h2) ?_
 have cr0 := r0.lt
 clear r0
 rintro _ z1004 ⟨rfl, r0, k⟩
 refine ⟨_, rfl, ?_⟩
 simp only [Act.put, pu]
 clear cr0
 replace sk := sk.trans k (by simp <;> omega)
 clear k
 refine pw_as (by rfl) rfl rfl ?_
 simp only [Act.put, pu]
 refine pw_nil ?_
 go_wp2
 go_ret
 exact ⟨rfl, r0, sk⟩
end Go.Proofs.Ytojobffihlmfgaa
/- The document's functions of layer 18: Key, Stamp, bare, carries, num, part. -/
namespace Go.Proofs.Ytojobffihlmfgaa
open Go.RowKit
set_option linter.unusedVariables false
set_option linter.unusedSimpArgs false
set_option maxRecDepth 100000 in
set_option maxHeartbeats 2000000 in
theorem rwkey_any (s : List UInt8) (w : World) (hs : s.length < 9223372036854775808) :
  Calls Try.prog 64 #[.string ⟨s.toArray⟩] w fun e w' => e = .returned (.bool (keyB s)) ∧ Below w.heap.size w w' := by
 by_cases h1 : 1 ≤ s.length
 rotate_left
 ·rw [show keyB s = false from decide_eq_false (by omega)]
  go_enter Try.func64, Try.ntmps64
  (repeat ((fail_if_success with_reducible refine rg ?_); go_step))
  refine wp_region_pw ?_
  refine pw_value (by rfl) (.bool false) (fun _ => rfl) ?_
  simp only [Act.put, pu]
  refine pw_nil ?_
  have sb := Below.refl w.heap.size w
  (repeat ((fail_if_success with_reducible refine rg ?_); go_step))
  refine wp_region_pw ?_
  refine pw_mv (by rfl) rfl rfl ?_
  simp only [Act.put, pu]
  refine pw_value (by rfl) (.int .i64 (s.length : Nat)) (y_lenS _ _ rfl s rfl Try.underlying9) ?_
  simp only [Act.put, pu]
  refine pw_value (by rfl) (.bool false) (w_ge _ _ _ _ rfl (s.length : Nat) 1 rfl rfl false (decide_eq_false (by omega))) ?_
  simp only [Act.put, pu]
  refine pw_mv (by rfl) rfl rfl ?_
  simp only [Act.put, pu]
  refine pw_skip (by rfl) ?_
  simp only [Act.put, pu]
  refine pw_skip (by rfl) ?_
  simp only [Act.put, pu]
  refine pw_skip (by rfl) ?_
  simp only [Act.put, pu]
  refine pw_pick (by rfl) false (v := .bool false) rfl rfl rfl ?_
  simp only [Act.put, pu]
  refine pw_as (by rfl) rfl rfl ?_
  simp only [Act.put, pu]
  refine pw_nil ?_
  go_wp2
  go_ret
  exact ⟨rfl, sb⟩
 by_cases h2 : s.length ≤ 8
 ·rw [show keyB s = true from decide_eq_true ⟨h1, h2⟩]
  go_enter Try.func64, Try.ntmps64
  (repeat ((fail_if_success with_reducible refine rg ?_); go_step))
  refine wp_region_pw ?_
  refine pw_value (by rfl) (.bool false) (fun _ => rfl) ?_
  simp only [Act.put, pu]
  refine pw_nil ?_
  have sb := Below.refl w.heap.size w
  (repeat ((fail_if_success with_reducible refine rg ?_); go_step))
  refine wp_region_pw ?_
  refine pw_mv (by rfl) rfl rfl ?_
  simp only [Act.put, pu]
  refine pw_value (by rfl) (.int .i64 (s.length : Nat)) (y_lenS _ _ rfl s rfl Try.underlying9) ?_
  simp only [Act.put, pu]
  refine pw_value (by rfl) (.bool true) (w_ge _ _ _ _ rfl (s.length : Nat) 1 rfl rfl true (decide_eq_true (by omega))) ?_
  simp only [Act.put, pu]
  refine pw_mv (by rfl) rfl rfl ?_
  simp only [Act.put, pu]
  refine pw_mv (by rfl) rfl rfl ?_
  simp only [Act.put, pu]
  refine pw_value (by rfl) (.int .i64 (s.length : Nat)) (y_lenS _ _ rfl s rfl Try.underlying9) ?_
  simp only [Act.put, pu]
  refine pw_value (by rfl) (.bool true) (w_le _ _ _ _ rfl (s.length : Nat) 8 rfl rfl true (decide_eq_true (by omega))) ?_
  simp only [Act.put, pu]
  refine pw_pick (by rfl) true (v := .bool true) rfl rfl rfl ?_
  simp only [Act.put, pu]
  refine pw_as (by rfl) rfl rfl ?_
  simp only [Act.put, pu]
  refine pw_nil ?_
  go_wp2
  go_ret
  exact ⟨rfl, sb⟩
 ·rw [show keyB s = false from decide_eq_false (by omega)]
  go_enter Try.func64, Try.ntmps64
  (repeat ((fail_if_success with_reducible refine rg ?_); go_step))
  refine wp_region_pw ?_
  refine pw_value (by rfl) (.bool false) (fun _ => rfl) ?_
  simp only [Act.put, pu]
  refine pw_nil ?_
  have sb := Below.refl w.heap.size w
  (repeat ((fail_if_success with_reducible refine rg ?_); go_step))
  refine wp_region_pw ?_
  refine pw_mv (by rfl) rfl rfl ?_
  simp only [Act.put, pu]
  refine pw_value (by rfl) (.int .i64 (s.length : Nat)) (y_lenS _ _ rfl s rfl Try.underlying9) ?_
  simp only [Act.put, pu]
  refine pw_value (by rfl) (.bool true) (w_ge _ _ _ _ rfl (s.length : Nat) 1 rfl rfl true (decide_eq_true (by omega))) ?_
  simp only [Act.put, pu]
  refine pw_mv (by rfl) rfl rfl ?_
  simp only [Act.put, pu]
  refine pw_mv (by rfl) rfl rfl ?_
  simp only [Act.put, pu]
  refine pw_value (by rfl) (.int .i64 (s.length : Nat)) (y_lenS _ _ rfl s rfl Try.underlying9) ?_
  simp only [Act.put, pu]
  refine pw_value (by rfl) (.bool false) (w_le _ _ _ _ rfl (s.length : Nat) 8 rfl rfl false (decide_eq_false (by omega))) ?_
  simp only [Act.put, pu]
  refine pw_pick (by rfl) true (v := .bool false) rfl rfl rfl ?_
  simp only [Act.put, pu]
  refine pw_as (by rfl) rfl rfl ?_
  simp only [Act.put, pu]
  refine pw_nil ?_
  go_wp2
  go_ret
  exact ⟨rfl, sb⟩
set_option maxRecDepth 100000 in
set_option maxHeartbeats 2000000 in
theorem rwst_any (sq cl : Int) (w : World) :
  Calls Try.prog 66 #[.agg (tsC sq cl)] w fun e w' => e = .returned (.bool (stB sq cl)) ∧ Below w.heap.size w w' := by
 by_cases h0 : 1 ≤ sq
 rotate_left
 ·rw [show stB sq cl = false from decide_eq_false (by omega)]
  go_enter Try.func66, Try.ntmps66
  (repeat ((fail_if_success with_reducible refine rg ?_); go_step))
  refine wp_region_pw ?_
  refine pw_boxr (by rfl) 24 _ rfl (tsC sq cl) rfl ?_
  intro g1 z0 n0 r1 k
  simp only [Act.put, pu]
  have b1 : w.heap.size ≤ g1 := n0
  clear n0
  have sb := k.below w.heap.size (Nat.le_refl _) (by simp)
  clear k
  refine pw_value (by rfl) (.bool false) (fun _ => rfl) ?_
  simp only [Act.put, pu]
  refine pw_nil ?_
  (repeat ((fail_if_success with_reducible refine rg ?_); go_step))
  refine wp_region_pw ?_
  refine pw_value (by rfl) (.pointer (some ⟨g1, 0, none⟩)) (exec_field 24 _ 0 rfl g1 0 rfl _ Try.underlying24 _ rfl 0 Try.sizeOf3) ?_
  simp only [Act.put, pu]
  refine pw_loadk (by rfl) 3 _ rfl _ (0) rfl r1.r (.int .i64 sq) rfl Try.isAgg3 ?_
  simp only [Act.put, pu]
  refine pw_value (by rfl) (.bool false) (w_ge _ _ _ _ rfl sq 1 rfl rfl false (decide_eq_false (by omega))) ?_
  simp only [Act.put, pu]
  refine pw_mv (by rfl) rfl rfl ?_
  simp only [Act.put, pu]
  refine pw_skip (by rfl) ?_
  simp only [Act.put, pu]
  refine pw_skip (by rfl) ?_
  simp only [Act.put, pu]
  refine pw_skip (by rfl) ?_
  simp only [Act.put, pu]
  refine pw_pick (by rfl) false (v := .bool false) rfl rfl rfl ?_
  simp only [Act.put, pu]
  refine pw_mv (by rfl) rfl rfl ?_
  simp only [Act.put, pu]
  refine pw_skip (by rfl) ?_
  simp only [Act.put, pu]
  refine pw_skip (by rfl) ?_
  simp only [Act.put, pu]
  refine pw_skip (by rfl) ?_
  simp only [Act.put, pu]
  refine pw_pick (by rfl) false (v := .bool false) rfl rfl rfl ?_
  simp only [Act.put, pu]
  refine pw_mv (by rfl) rfl rfl ?_
  simp only [Act.put, pu]
  refine pw_skip (by rfl) ?_
  simp only [Act.put, pu]
  refine pw_skip (by rfl) ?_
  simp only [Act.put, pu]
  refine pw_skip (by rfl) ?_
  simp only [Act.put, pu]
  refine pw_pick (by rfl) false (v := .bool false) rfl rfl rfl ?_
  simp only [Act.put, pu]
  refine pw_as (by rfl) rfl rfl ?_
  simp only [Act.put, pu]
  refine pw_nil ?_
  go_wp2
  go_ret
  exact ⟨rfl, sb⟩
 by_cases h1 : sq ≤ 1099511627776
 rotate_left
 ·rw [show stB sq cl = false from decide_eq_false (by omega)]
  go_enter Try.func66, Try.ntmps66
  (repeat ((fail_if_success with_reducible refine rg ?_); go_step))
  refine wp_region_pw ?_
  refine pw_boxr (by rfl) 24 _ rfl (tsC sq cl) rfl ?_
  intro g1 z0 n0 r1 k
  simp only [Act.put, pu]
  have b1 : w.heap.size ≤ g1 := n0
  clear n0
  have sb := k.below w.heap.size (Nat.le_refl _) (by simp)
  clear k
  refine pw_value (by rfl) (.bool false) (fun _ => rfl) ?_
  simp only [Act.put, pu]
  refine pw_nil ?_
  (repeat ((fail_if_success with_reducible refine rg ?_); go_step))
  refine wp_region_pw ?_
  refine pw_value (by rfl) (.pointer (some ⟨g1, 0, none⟩)) (exec_field 24 _ 0 rfl g1 0 rfl _ Try.underlying24 _ rfl 0 Try.sizeOf3) ?_
  simp only [Act.put, pu]
  refine pw_loadk (by rfl) 3 _ rfl _ (0) rfl r1.r (.int .i64 sq) rfl Try.isAgg3 ?_
  simp only [Act.put, pu]
  refine pw_value (by rfl) (.bool true) (w_ge _ _ _ _ rfl sq 1 rfl rfl true (decide_eq_true (by omega))) ?_
  simp only [Act.put, pu]
  refine pw_mv (by rfl) rfl rfl ?_
  simp only [Act.put, pu]
  refine pw_value (by rfl) (.pointer (some ⟨g1, 0, none⟩)) (exec_field 24 _ 0 rfl g1 0 rfl _ Try.underlying24 _ rfl 0 Try.sizeOf3) ?_
  simp only [Act.put, pu]
  refine pw_loadk (by rfl) 3 _ rfl _ (0) rfl r1.r (.int .i64 sq) rfl Try.isAgg3 ?_
  simp only [Act.put, pu]
  refine pw_value (by rfl) (.bool false) (w_le _ _ _ _ rfl sq 1099511627776 rfl rfl false (decide_eq_false (by omega))) ?_
  simp only [Act.put, pu]
  refine pw_pick (by rfl) true (v := .bool false) rfl rfl rfl ?_
  simp only [Act.put, pu]
  refine pw_mv (by rfl) rfl rfl ?_
  simp only [Act.put, pu]
  refine pw_skip (by rfl) ?_
  simp only [Act.put, pu]
  refine pw_skip (by rfl) ?_
  simp only [Act.put, pu]
  refine pw_skip (by rfl) ?_
  simp only [Act.put, pu]
  refine pw_pick (by rfl) false (v := .bool false) rfl rfl rfl ?_
  simp only [Act.put, pu]
  refine pw_mv (by rfl) rfl rfl ?_
  simp only [Act.put, pu]
  refine pw_skip (by rfl) ?_
  simp only [Act.put, pu]
  refine pw_skip (by rfl) ?_
  simp only [Act.put, pu]
  refine pw_skip (by rfl) ?_
  simp only [Act.put, pu]
  refine pw_pick (by rfl) false (v := .bool false) rfl rfl rfl ?_
  simp only [Act.put, pu]
  refine pw_as (by rfl) rfl rfl ?_
  simp only [Act.put, pu]
  refine pw_nil ?_
  go_wp2
  go_ret
  exact ⟨rfl, sb⟩
 by_cases h2 : 1 ≤ cl
 rotate_left
 ·rw [show stB sq cl = false from decide_eq_false (by omega)]
  go_enter Try.func66, Try.ntmps66
  (repeat ((fail_if_success with_reducible refine rg ?_); go_step))
  refine wp_region_pw ?_
  refine pw_boxr (by rfl) 24 _ rfl (tsC sq cl) rfl ?_
  intro g1 z0 n0 r1 k
  simp only [Act.put, pu]
  have b1 : w.heap.size ≤ g1 := n0
  clear n0
  have sb := k.below w.heap.size (Nat.le_refl _) (by simp)
  clear k
  refine pw_value (by rfl) (.bool false) (fun _ => rfl) ?_
  simp only [Act.put, pu]
  refine pw_nil ?_
  (repeat ((fail_if_success with_reducible refine rg ?_); go_step))
  refine wp_region_pw ?_
  refine pw_value (by rfl) (.pointer (some ⟨g1, 0, none⟩)) (exec_field 24 _ 0 rfl g1 0 rfl _ Try.underlying24 _ rfl 0 Try.sizeOf3) ?_
  simp only [Act.put, pu]
  refine pw_loadk (by rfl) 3 _ rfl _ (0) rfl r1.r (.int .i64 sq) rfl Try.isAgg3 ?_
  simp only [Act.put, pu]
  refine pw_value (by rfl) (.bool true) (w_ge _ _ _ _ rfl sq 1 rfl rfl true (decide_eq_true (by omega))) ?_
  simp only [Act.put, pu]
  refine pw_mv (by rfl) rfl rfl ?_
  simp only [Act.put, pu]
  refine pw_value (by rfl) (.pointer (some ⟨g1, 0, none⟩)) (exec_field 24 _ 0 rfl g1 0 rfl _ Try.underlying24 _ rfl 0 Try.sizeOf3) ?_
  simp only [Act.put, pu]
  refine pw_loadk (by rfl) 3 _ rfl _ (0) rfl r1.r (.int .i64 sq) rfl Try.isAgg3 ?_
  simp only [Act.put, pu]
  refine pw_value (by rfl) (.bool true) (w_le _ _ _ _ rfl sq 1099511627776 rfl rfl true (decide_eq_true (by omega))) ?_
  simp only [Act.put, pu]
  refine pw_pick (by rfl) true (v := .bool true) rfl rfl rfl ?_
  simp only [Act.put, pu]
  refine pw_mv (by rfl) rfl rfl ?_
  simp only [Act.put, pu]
  refine pw_value (by rfl) (.pointer (some ⟨g1, 1, none⟩)) (exec_field 24 _ 1 rfl g1 0 rfl _ Try.underlying24 _ rfl 0 Try.sizeOf3) ?_
  simp only [Act.put, pu]
  refine pw_loadk (by rfl) 3 _ rfl _ (1) rfl r1.r (.int .i64 cl) rfl Try.isAgg3 ?_
  simp only [Act.put, pu]
  refine pw_value (by rfl) (.bool false) (w_ge _ _ _ _ rfl cl 1 rfl rfl false (decide_eq_false (by omega))) ?_
  simp only [Act.put, pu]
  refine pw_pick (by rfl) true (v := .bool false) rfl rfl rfl ?_
  simp only [Act.put, pu]
  refine pw_mv (by rfl) rfl rfl ?_
  simp only [Act.put, pu]
  refine pw_skip (by rfl) ?_
  simp only [Act.put, pu]
  refine pw_skip (by rfl) ?_
  simp only [Act.put, pu]
  refine pw_skip (by rfl) ?_
  simp only [Act.put, pu]
  refine pw_pick (by rfl) false (v := .bool false) rfl rfl rfl ?_
  simp only [Act.put, pu]
  refine pw_as (by rfl) rfl rfl ?_
  simp only [Act.put, pu]
  refine pw_nil ?_
  go_wp2
  go_ret
  exact ⟨rfl, sb⟩
 by_cases h3 : cl ≤ 4
 rotate_left
 ·rw [show stB sq cl = false from decide_eq_false (by omega)]
  go_enter Try.func66, Try.ntmps66
  (repeat ((fail_if_success with_reducible refine rg ?_); go_step))
  refine wp_region_pw ?_
  refine pw_boxr (by rfl) 24 _ rfl (tsC sq cl) rfl ?_
  intro g1 z0 n0 r1 k
  simp only [Act.put, pu]
  have b1 : w.heap.size ≤ g1 := n0
  clear n0
  have sb := k.below w.heap.size (Nat.le_refl _) (by simp)
  clear k
  refine pw_value (by rfl) (.bool false) (fun _ => rfl) ?_
  simp only [Act.put, pu]
  refine pw_nil ?_
  (repeat ((fail_if_success with_reducible refine rg ?_); go_step))
  refine wp_region_pw ?_
  refine pw_value (by rfl) (.pointer (some ⟨g1, 0, none⟩)) (exec_field 24 _ 0 rfl g1 0 rfl _ Try.underlying24 _ rfl 0 Try.sizeOf3) ?_
  simp only [Act.put, pu]
  refine pw_loadk (by rfl) 3 _ rfl _ (0) rfl r1.r (.int .i64 sq) rfl Try.isAgg3 ?_
  simp only [Act.put, pu]
  refine pw_value (by rfl) (.bool true) (w_ge _ _ _ _ rfl sq 1 rfl rfl true (decide_eq_true (by omega))) ?_
  simp only [Act.put, pu]
  refine pw_mv (by rfl) rfl rfl ?_
  simp only [Act.put, pu]
  refine pw_value (by rfl) (.pointer (some ⟨g1, 0, none⟩)) (exec_field 24 _ 0 rfl g1 0 rfl _ Try.underlying24 _ rfl 0 Try.sizeOf3) ?_
  simp only [Act.put, pu]
  refine pw_loadk (by rfl) 3 _ rfl _ (0) rfl r1.r (.int .i64 sq) rfl Try.isAgg3 ?_
  simp only [Act.put, pu]
  refine pw_value (by rfl) (.bool true) (w_le _ _ _ _ rfl sq 1099511627776 rfl rfl true (decide_eq_true (by omega))) ?_
  simp only [Act.put, pu]
  refine pw_pick (by rfl) true (v := .bool true) rfl rfl rfl ?_
  simp only [Act.put, pu]
  refine pw_mv (by rfl) rfl rfl ?_
  simp only [Act.put, pu]
  refine pw_value (by rfl) (.pointer (some ⟨g1, 1, none⟩)) (exec_field 24 _ 1 rfl g1 0 rfl _ Try.underlying24 _ rfl 0 Try.sizeOf3) ?_
  simp only [Act.put, pu]
  refine pw_loadk (by rfl) 3 _ rfl _ (1) rfl r1.r (.int .i64 cl) rfl Try.isAgg3 ?_
  simp only [Act.put, pu]
  refine pw_value (by rfl) (.bool true) (w_ge _ _ _ _ rfl cl 1 rfl rfl true (decide_eq_true (by omega))) ?_
  simp only [Act.put, pu]
  refine pw_pick (by rfl) true (v := .bool true) rfl rfl rfl ?_
  simp only [Act.put, pu]
  refine pw_mv (by rfl) rfl rfl ?_
  simp only [Act.put, pu]
  refine pw_value (by rfl) (.pointer (some ⟨g1, 1, none⟩)) (exec_field 24 _ 1 rfl g1 0 rfl _ Try.underlying24 _ rfl 0 Try.sizeOf3) ?_
  simp only [Act.put, pu]
  refine pw_loadk (by rfl) 3 _ rfl _ (1) rfl r1.r (.int .i64 cl) rfl Try.isAgg3 ?_
  simp only [Act.put, pu]
  refine pw_value (by rfl) (.bool false) (w_le _ _ _ _ rfl cl 4 rfl rfl false (decide_eq_false (by omega))) ?_
  simp only [Act.put, pu]
  refine pw_pick (by rfl) true (v := .bool false) rfl rfl rfl ?_
  simp only [Act.put, pu]
  refine pw_as (by rfl) rfl rfl ?_
  simp only [Act.put, pu]
  refine pw_nil ?_
  go_wp2
  go_ret
  exact ⟨rfl, sb⟩
 rw [show stB sq cl = true from decide_eq_true ⟨h0, h1, h2, h3⟩]
 go_enter Try.func66, Try.ntmps66
 (repeat ((fail_if_success with_reducible refine rg ?_); go_step))
 refine wp_region_pw ?_
 refine pw_boxr (by rfl) 24 _ rfl (tsC sq cl) rfl ?_
 intro g1 z0 n0 r1 k
 simp only [Act.put, pu]
 have b1 : w.heap.size ≤ g1 := n0
 clear n0
 have sb := k.below w.heap.size (Nat.le_refl _) (by simp)
 clear k
 refine pw_value (by rfl) (.bool false) (fun _ => rfl) ?_
 simp only [Act.put, pu]
 refine pw_nil ?_
 (repeat ((fail_if_success with_reducible refine rg ?_); go_step))
 refine wp_region_pw ?_
 refine pw_value (by rfl) (.pointer (some ⟨g1, 0, none⟩)) (exec_field 24 _ 0 rfl g1 0 rfl _ Try.underlying24 _ rfl 0 Try.sizeOf3) ?_
 simp only [Act.put, pu]
 refine pw_loadk (by rfl) 3 _ rfl _ (0) rfl r1.r (.int .i64 sq) rfl Try.isAgg3 ?_
 simp only [Act.put, pu]
 refine pw_value (by rfl) (.bool true) (w_ge _ _ _ _ rfl sq 1 rfl rfl true (decide_eq_true (by omega))) ?_
 simp only [Act.put, pu]
 refine pw_mv (by rfl) rfl rfl ?_
 simp only [Act.put, pu]
 refine pw_value (by rfl) (.pointer (some ⟨g1, 0, none⟩)) (exec_field 24 _ 0 rfl g1 0 rfl _ Try.underlying24 _ rfl 0 Try.sizeOf3) ?_
 simp only [Act.put, pu]
 refine pw_loadk (by rfl) 3 _ rfl _ (0) rfl r1.r (.int .i64 sq) rfl Try.isAgg3 ?_
 simp only [Act.put, pu]
 refine pw_value (by rfl) (.bool true) (w_le _ _ _ _ rfl sq 1099511627776 rfl rfl true (decide_eq_true (by omega))) ?_
 simp only [Act.put, pu]
 refine pw_pick (by rfl) true (v := .bool true) rfl rfl rfl ?_
 simp only [Act.put, pu]
 refine pw_mv (by rfl) rfl rfl ?_
 simp only [Act.put, pu]
 refine pw_value (by rfl) (.pointer (some ⟨g1, 1, none⟩)) (exec_field 24 _ 1 rfl g1 0 rfl _ Try.underlying24 _ rfl 0 Try.sizeOf3) ?_
 simp only [Act.put, pu]
 refine pw_loadk (by rfl) 3 _ rfl _ (1) rfl r1.r (.int .i64 cl) rfl Try.isAgg3 ?_
 simp only [Act.put, pu]
 refine pw_value (by rfl) (.bool true) (w_ge _ _ _ _ rfl cl 1 rfl rfl true (decide_eq_true (by omega))) ?_
 simp only [Act.put, pu]
 refine pw_pick (by rfl) true (v := .bool true) rfl rfl rfl ?_
 simp only [Act.put, pu]
 refine pw_mv (by rfl) rfl rfl ?_
 simp only [Act.put, pu]
 refine pw_value (by rfl) (.pointer (some ⟨g1, 1, none⟩)) (exec_field 24 _ 1 rfl g1 0 rfl _ Try.underlying24 _ rfl 0 Try.sizeOf3) ?_
 simp only [Act.put, pu]
 refine pw_loadk (by rfl) 3 _ rfl _ (1) rfl r1.r (.int .i64 cl) rfl Try.isAgg3 ?_
 simp only [Act.put, pu]
 refine pw_value (by rfl) (.bool true) (w_le _ _ _ _ rfl cl 4 rfl rfl true (decide_eq_true (by omega))) ?_
 simp only [Act.put, pu]
 refine pw_pick (by rfl) true (v := .bool true) rfl rfl rfl ?_
 simp only [Act.put, pu]
 refine pw_as (by rfl) rfl rfl ?_
 simp only [Act.put, pu]
 refine pw_nil ?_
 go_wp2
 go_ret
 exact ⟨rfl, sb⟩
set_option maxRecDepth 100000 in
set_option maxHeartbeats 2000000 in
theorem rwbare_any (kd op : Int) (key : List UInt8) (sq cl : Int) (dg : List UInt8) (a1 : Option Addr) (n c1 : Nat) (a2 : Option Addr) (m c2 : Nat) (w : World) :
  Calls Try.prog 65 #[.agg (msC kd op key sq cl dg a1 n c1 a2 m c2)] w fun e w' => e = .returned (.bool (brB n m)) ∧ Below w.heap.size w w' := by
 by_cases h1 : n = 0
 rotate_left
 ·rw [show brB n m = false from decide_eq_false (by omega)]
  go_enter Try.func65, Try.ntmps65
  (repeat ((fail_if_success with_reducible refine rg ?_); go_step))
  refine wp_region_pw ?_
  refine pw_boxr (by rfl) 29 _ rfl (msC kd op key sq cl dg a1 n c1 a2 m c2) rfl ?_
  intro g1 z0 n0 r1 k
  simp only [Act.put, pu]
  have b1 : w.heap.size ≤ g1 := n0
  clear n0
  have sb := k.below w.heap.size (Nat.le_refl _) (by simp)
  clear k
  refine pw_value (by rfl) (.bool false) (fun _ => rfl) ?_
  simp only [Act.put, pu]
  refine pw_nil ?_
  (repeat ((fail_if_success with_reducible refine rg ?_); go_step))
  refine wp_region_pw ?_
  refine pw_value (by rfl) (.pointer (some ⟨g1, 6, none⟩)) (exec_field 29 _ 5 rfl g1 0 rfl _ Try.underlying29 _ rfl 0 Try.sizeOf26) ?_
  simp only [Act.put, pu]
  refine pw_loadk (by rfl) 26 _ rfl _ (6) rfl r1.r (.slice a1 n c1) rfl Try.isAgg26 ?_
  simp only [Act.put, pu]
  refine pw_value (by rfl) (.int .i64 (n : Nat)) (exec_len_s 26 _ rfl a1 n c1 rfl sl_mw) ?_
  simp only [Act.put, pu]
  refine pw_value (by rfl) (.bool false) (x_eqI _ _ _ _ rfl .i64 (n : Nat) 0 rfl rfl false (decide_eq_false (by omega))) ?_
  simp only [Act.put, pu]
  refine pw_mv (by rfl) rfl rfl ?_
  simp only [Act.put, pu]
  refine pw_skip (by rfl) ?_
  simp only [Act.put, pu]
  refine pw_skip (by rfl) ?_
  simp only [Act.put, pu]
  refine pw_skip (by rfl) ?_
  simp only [Act.put, pu]
  refine pw_skip (by rfl) ?_
  simp only [Act.put, pu]
  refine pw_pick (by rfl) false (v := .bool false) rfl rfl rfl ?_
  simp only [Act.put, pu]
  refine pw_as (by rfl) rfl rfl ?_
  simp only [Act.put, pu]
  refine pw_nil ?_
  go_wp2
  go_ret
  exact ⟨rfl, sb⟩
 by_cases h2 : m = 0
 ·rw [show brB n m = true from decide_eq_true ⟨h1, h2⟩]
  go_enter Try.func65, Try.ntmps65
  (repeat ((fail_if_success with_reducible refine rg ?_); go_step))
  refine wp_region_pw ?_
  refine pw_boxr (by rfl) 29 _ rfl (msC kd op key sq cl dg a1 n c1 a2 m c2) rfl ?_
  intro g1 z0 n0 r1 k
  simp only [Act.put, pu]
  have b1 : w.heap.size ≤ g1 := n0
  clear n0
  have sb := k.below w.heap.size (Nat.le_refl _) (by simp)
  clear k
  refine pw_value (by rfl) (.bool false) (fun _ => rfl) ?_
  simp only [Act.put, pu]
  refine pw_nil ?_
  (repeat ((fail_if_success with_reducible refine rg ?_); go_step))
  refine wp_region_pw ?_
  refine pw_value (by rfl) (.pointer (some ⟨g1, 6, none⟩)) (exec_field 29 _ 5 rfl g1 0 rfl _ Try.underlying29 _ rfl 0 Try.sizeOf26) ?_
  simp only [Act.put, pu]
  refine pw_loadk (by rfl) 26 _ rfl _ (6) rfl r1.r (.slice a1 n c1) rfl Try.isAgg26 ?_
  simp only [Act.put, pu]
  refine pw_value (by rfl) (.int .i64 (n : Nat)) (exec_len_s 26 _ rfl a1 n c1 rfl sl_mw) ?_
  simp only [Act.put, pu]
  refine pw_value (by rfl) (.bool true) (x_eqI _ _ _ _ rfl .i64 (n : Nat) 0 rfl rfl true (decide_eq_true (by omega))) ?_
  simp only [Act.put, pu]
  refine pw_mv (by rfl) rfl rfl ?_
  simp only [Act.put, pu]
  refine pw_value (by rfl) (.pointer (some ⟨g1, 7, none⟩)) (exec_field 29 _ 6 rfl g1 0 rfl _ Try.underlying29 _ rfl 0 Try.sizeOf27) ?_
  simp only [Act.put, pu]
  refine pw_loadk (by rfl) 27 _ rfl _ (7) rfl r1.r (.slice a2 m c2) rfl Try.isAgg27 ?_
  simp only [Act.put, pu]
  refine pw_value (by rfl) (.int .i64 (m : Nat)) (exec_len_s 27 _ rfl a2 m c2 rfl sl_yw) ?_
  simp only [Act.put, pu]
  refine pw_value (by rfl) (.bool true) (x_eqI _ _ _ _ rfl .i64 (m : Nat) 0 rfl rfl true (decide_eq_true (by omega))) ?_
  simp only [Act.put, pu]
  refine pw_pick (by rfl) true (v := .bool true) rfl rfl rfl ?_
  simp only [Act.put, pu]
  refine pw_as (by rfl) rfl rfl ?_
  simp only [Act.put, pu]
  refine pw_nil ?_
  go_wp2
  go_ret
  exact ⟨rfl, sb⟩
 ·rw [show brB n m = false from decide_eq_false (by omega)]
  go_enter Try.func65, Try.ntmps65
  (repeat ((fail_if_success with_reducible refine rg ?_); go_step))
  refine wp_region_pw ?_
  refine pw_boxr (by rfl) 29 _ rfl (msC kd op key sq cl dg a1 n c1 a2 m c2) rfl ?_
  intro g1 z0 n0 r1 k
  simp only [Act.put, pu]
  have b1 : w.heap.size ≤ g1 := n0
  clear n0
  have sb := k.below w.heap.size (Nat.le_refl _) (by simp)
  clear k
  refine pw_value (by rfl) (.bool false) (fun _ => rfl) ?_
  simp only [Act.put, pu]
  refine pw_nil ?_
  (repeat ((fail_if_success with_reducible refine rg ?_); go_step))
  refine wp_region_pw ?_
  refine pw_value (by rfl) (.pointer (some ⟨g1, 6, none⟩)) (exec_field 29 _ 5 rfl g1 0 rfl _ Try.underlying29 _ rfl 0 Try.sizeOf26) ?_
  simp only [Act.put, pu]
  refine pw_loadk (by rfl) 26 _ rfl _ (6) rfl r1.r (.slice a1 n c1) rfl Try.isAgg26 ?_
  simp only [Act.put, pu]
  refine pw_value (by rfl) (.int .i64 (n : Nat)) (exec_len_s 26 _ rfl a1 n c1 rfl sl_mw) ?_
  simp only [Act.put, pu]
  refine pw_value (by rfl) (.bool true) (x_eqI _ _ _ _ rfl .i64 (n : Nat) 0 rfl rfl true (decide_eq_true (by omega))) ?_
  simp only [Act.put, pu]
  refine pw_mv (by rfl) rfl rfl ?_
  simp only [Act.put, pu]
  refine pw_value (by rfl) (.pointer (some ⟨g1, 7, none⟩)) (exec_field 29 _ 6 rfl g1 0 rfl _ Try.underlying29 _ rfl 0 Try.sizeOf27) ?_
  simp only [Act.put, pu]
  refine pw_loadk (by rfl) 27 _ rfl _ (7) rfl r1.r (.slice a2 m c2) rfl Try.isAgg27 ?_
  simp only [Act.put, pu]
  refine pw_value (by rfl) (.int .i64 (m : Nat)) (exec_len_s 27 _ rfl a2 m c2 rfl sl_yw) ?_
  simp only [Act.put, pu]
  refine pw_value (by rfl) (.bool false) (x_eqI _ _ _ _ rfl .i64 (m : Nat) 0 rfl rfl false (decide_eq_false (by omega))) ?_
  simp only [Act.put, pu]
  refine pw_pick (by rfl) true (v := .bool false) rfl rfl rfl ?_
  simp only [Act.put, pu]
  refine pw_as (by rfl) rfl rfl ?_
  simp only [Act.put, pu]
  refine pw_nil ?_
  go_wp2
  go_ret
  exact ⟨rfl, sb⟩
theorem rmby_any (a1 : Option Addr) (n c1 : Nat) (N : Nat → Nat) (M : Nat → Nat → Nat) (w : World) (hn : n < 4611686018427387904) (hN : ∀ i, i < n → N i < 4611686018427387904) (h : MtA w a1 n N M) :
  Calls Try.prog 37 #[.slice a1 n c1] w fun e w' => e = .returned (.string ⟨(xmB n N M).toArray⟩) ∧ Below w.heap.size w w' := by
 obtain ⟨S, gb, ob, bcs, tb, h1, h2⟩ := h
 exact rxby_any a1 n c1 S gb ob bcs tb N M w hn hN h1 h2
set_option maxRecDepth 100000 in
set_option maxHeartbeats 2000000 in
theorem rwdealt_any (kd op : Int) (key : List UInt8) (sq cl : Int) (dg : List UInt8) (a1 : Option Addr) (n c1 : Nat) (a2 : Option Addr) (m c2 : Nat) (N : Nat → Nat) (M : Nat → Nat → Nat) (X : List UInt8) (w : World) (hX : xmB n N M = X) (hn : n < 4611686018427387904) (hN : ∀ i, i < n → N i < 4611686018427387904) (hM : MtA w a1 n N M) :
  Calls Try.prog 67 #[.agg (msC kd op key sq cl dg a1 n c1 a2 m c2)] w fun e w' => e = .returned (.bool (dlB n m X)) ∧ Below w.heap.size w w' := by
 have hB : ∀ w', Below w.heap.size w w' → Calls Try.prog 37 #[.slice a1 n c1] w' fun e w2 => e = .returned (.string ⟨X.toArray⟩) ∧ Below w'.heap.size w' w2 := fun w' hb => by
  have := rmby_any a1 n c1 N M w' hn hN (hM.below hb)
  rw [hX] at this
  exact this
 clear hX hM
 by_cases h2 : X = []
 ·rw [show dlB n m X = false from decide_eq_false (fun h => h.2 h2)]
  go_enter Try.func67, Try.ntmps67
  (repeat ((fail_if_success with_reducible refine rg ?_); go_step))
  refine wp_region_pw ?_
  refine pw_boxr (by rfl) 29 _ rfl (msC kd op key sq cl dg a1 n c1 a2 m c2) rfl ?_
  intro g1 z0 n0 r1 k
  simp only [Act.put, pu]
  have b1 : w.heap.size ≤ g1 := n0
  clear n0
  have sb := k.below w.heap.size (Nat.le_refl _) (by simp)
  clear k
  refine pw_value (by rfl) (.bool false) (fun _ => rfl) ?_
  simp only [Act.put, pu]
  refine pw_nil ?_
  (repeat ((fail_if_success with_reducible refine rg ?_); go_step))
  refine wp_region_pw ?_
  refine pw_value (by rfl) (.pointer (some ⟨g1, 6, none⟩)) (exec_field 29 _ 5 rfl g1 0 rfl _ Try.underlying29 _ rfl 0 Try.sizeOf26) ?_
  simp only [Act.put, pu]
  refine pw_loadk (by rfl) 26 _ rfl _ (6) rfl r1.r (.slice a1 n c1) rfl Try.isAgg26 ?_
  simp only [Act.put, pu]
  refine pw_callB (by rfl) 37 _ _ rfl Try.func37 (by kernel_rfl) #[.slice a1 n c1] rfl _ (hB _ sb) ?_
  intro z1002 k
  simp only [Act.put, pu]
  replace r1 := k.row r1 (by simp <;> omega)
  replace sb := sb.trans (k.below w.heap.size sb.size (by simp <;> omega))
  clear k
  refine pw_value (by rfl) (.bool false) (y_neS _ _ _ _ rfl X [] rfl rfl false (by simp [h2])) ?_
  simp only [Act.put, pu]
  refine pw_mv (by rfl) rfl rfl ?_
  simp only [Act.put, pu]
  refine pw_skip (by rfl) ?_
  simp only [Act.put, pu]
  refine pw_skip (by rfl) ?_
  simp only [Act.put, pu]
  refine pw_skip (by rfl) ?_
  simp only [Act.put, pu]
  refine pw_skip (by rfl) ?_
  simp only [Act.put, pu]
  refine pw_skip (by rfl) ?_
  simp only [Act.put, pu]
  refine pw_skip (by rfl) ?_
  simp only [Act.put, pu]
  refine pw_skip (by rfl) ?_
  simp only [Act.put, pu]
  refine pw_pick (by rfl) false (v := .bool false) rfl rfl rfl ?_
  simp only [Act.put, pu]
  refine pw_as (by rfl) rfl rfl ?_
  simp only [Act.put, pu]
  refine pw_nil ?_
  go_wp2
  go_ret
  exact ⟨rfl, sb⟩
 by_cases h1 : m = n
 ·rw [show dlB n m X = true from decide_eq_true ⟨h1, h2⟩]
  go_enter Try.func67, Try.ntmps67
  (repeat ((fail_if_success with_reducible refine rg ?_); go_step))
  refine wp_region_pw ?_
  refine pw_boxr (by rfl) 29 _ rfl (msC kd op key sq cl dg a1 n c1 a2 m c2) rfl ?_
  intro g1 z0 n0 r1 k
  simp only [Act.put, pu]
  have b1 : w.heap.size ≤ g1 := n0
  clear n0
  have sb := k.below w.heap.size (Nat.le_refl _) (by simp)
  clear k
  refine pw_value (by rfl) (.bool false) (fun _ => rfl) ?_
  simp only [Act.put, pu]
  refine pw_nil ?_
  (repeat ((fail_if_success with_reducible refine rg ?_); go_step))
  refine wp_region_pw ?_
  refine pw_value (by rfl) (.pointer (some ⟨g1, 6, none⟩)) (exec_field 29 _ 5 rfl g1 0 rfl _ Try.underlying29 _ rfl 0 Try.sizeOf26) ?_
  simp only [Act.put, pu]
  refine pw_loadk (by rfl) 26 _ rfl _ (6) rfl r1.r (.slice a1 n c1) rfl Try.isAgg26 ?_
  simp only [Act.put, pu]
  refine pw_callB (by rfl) 37 _ _ rfl Try.func37 (by kernel_rfl) #[.slice a1 n c1] rfl _ (hB _ sb) ?_
  intro z1002 k
  simp only [Act.put, pu]
  replace r1 := k.row r1 (by simp <;> omega)
  replace sb := sb.trans (k.below w.heap.size sb.size (by simp <;> omega))
  clear k
  refine pw_value (by rfl) (.bool true) (y_neS _ _ _ _ rfl X [] rfl rfl true (by simp [h2])) ?_
  simp only [Act.put, pu]
  refine pw_mv (by rfl) rfl rfl ?_
  simp only [Act.put, pu]
  refine pw_value (by rfl) (.pointer (some ⟨g1, 7, none⟩)) (exec_field 29 _ 6 rfl g1 0 rfl _ Try.underlying29 _ rfl 0 Try.sizeOf27) ?_
  simp only [Act.put, pu]
  refine pw_loadk (by rfl) 27 _ rfl _ (7) rfl r1.r (.slice a2 m c2) rfl Try.isAgg27 ?_
  simp only [Act.put, pu]
  refine pw_value (by rfl) (.int .i64 (m : Nat)) (exec_len_s 27 _ rfl a2 m c2 rfl sl_yw) ?_
  simp only [Act.put, pu]
  refine pw_value (by rfl) (.pointer (some ⟨g1, 6, none⟩)) (exec_field 29 _ 5 rfl g1 0 rfl _ Try.underlying29 _ rfl 0 Try.sizeOf26) ?_
  simp only [Act.put, pu]
  refine pw_loadk (by rfl) 26 _ rfl _ (6) rfl r1.r (.slice a1 n c1) rfl Try.isAgg26 ?_
  simp only [Act.put, pu]
  refine pw_value (by rfl) (.int .i64 (n : Nat)) (exec_len_s 26 _ rfl a1 n c1 rfl sl_mw) ?_
  simp only [Act.put, pu]
  refine pw_value (by rfl) (.bool true) (x_eqI _ _ _ _ rfl .i64 (m : Nat) (n : Nat) rfl rfl true (decide_eq_true (by omega))) ?_
  simp only [Act.put, pu]
  refine pw_pick (by rfl) true (v := .bool true) rfl rfl rfl ?_
  simp only [Act.put, pu]
  refine pw_as (by rfl) rfl rfl ?_
  simp only [Act.put, pu]
  refine pw_nil ?_
  go_wp2
  go_ret
  exact ⟨rfl, sb⟩
 ·rw [show dlB n m X = false from decide_eq_false (fun h => h1 h.1)]
  go_enter Try.func67, Try.ntmps67
  (repeat ((fail_if_success with_reducible refine rg ?_); go_step))
  refine wp_region_pw ?_
  refine pw_boxr (by rfl) 29 _ rfl (msC kd op key sq cl dg a1 n c1 a2 m c2) rfl ?_
  intro g1 z0 n0 r1 k
  simp only [Act.put, pu]
  have b1 : w.heap.size ≤ g1 := n0
  clear n0
  have sb := k.below w.heap.size (Nat.le_refl _) (by simp)
  clear k
  refine pw_value (by rfl) (.bool false) (fun _ => rfl) ?_
  simp only [Act.put, pu]
  refine pw_nil ?_
  (repeat ((fail_if_success with_reducible refine rg ?_); go_step))
  refine wp_region_pw ?_
  refine pw_value (by rfl) (.pointer (some ⟨g1, 6, none⟩)) (exec_field 29 _ 5 rfl g1 0 rfl _ Try.underlying29 _ rfl 0 Try.sizeOf26) ?_
  simp only [Act.put, pu]
  refine pw_loadk (by rfl) 26 _ rfl _ (6) rfl r1.r (.slice a1 n c1) rfl Try.isAgg26 ?_
  simp only [Act.put, pu]
  refine pw_callB (by rfl) 37 _ _ rfl Try.func37 (by kernel_rfl) #[.slice a1 n c1] rfl _ (hB _ sb) ?_
  intro z1002 k
  simp only [Act.put, pu]
  replace r1 := k.row r1 (by simp <;> omega)
  replace sb := sb.trans (k.below w.heap.size sb.size (by simp <;> omega))
  clear k
  refine pw_value (by rfl) (.bool true) (y_neS _ _ _ _ rfl X [] rfl rfl true (by simp [h2])) ?_
  simp only [Act.put, pu]
  refine pw_mv (by rfl) rfl rfl ?_
  simp only [Act.put, pu]
  refine pw_value (by rfl) (.pointer (some ⟨g1, 7, none⟩)) (exec_field 29 _ 6 rfl g1 0 rfl _ Try.underlying29 _ rfl 0 Try.sizeOf27) ?_
  simp only [Act.put, pu]
  refine pw_loadk (by rfl) 27 _ rfl _ (7) rfl r1.r (.slice a2 m c2) rfl Try.isAgg27 ?_
  simp only [Act.put, pu]
  refine pw_value (by rfl) (.int .i64 (m : Nat)) (exec_len_s 27 _ rfl a2 m c2 rfl sl_yw) ?_
  simp only [Act.put, pu]
  refine pw_value (by rfl) (.pointer (some ⟨g1, 6, none⟩)) (exec_field 29 _ 5 rfl g1 0 rfl _ Try.underlying29 _ rfl 0 Try.sizeOf26) ?_
  simp only [Act.put, pu]
  refine pw_loadk (by rfl) 26 _ rfl _ (6) rfl r1.r (.slice a1 n c1) rfl Try.isAgg26 ?_
  simp only [Act.put, pu]
  refine pw_value (by rfl) (.int .i64 (n : Nat)) (exec_len_s 26 _ rfl a1 n c1 rfl sl_mw) ?_
  simp only [Act.put, pu]
  refine pw_value (by rfl) (.bool false) (x_eqI _ _ _ _ rfl .i64 (m : Nat) (n : Nat) rfl rfl false (decide_eq_false (by omega))) ?_
  simp only [Act.put, pu]
  refine pw_pick (by rfl) true (v := .bool false) rfl rfl rfl ?_
  simp only [Act.put, pu]
  refine pw_as (by rfl) rfl rfl ?_
  simp only [Act.put, pu]
  refine pw_nil ?_
  go_wp2
  go_ret
  exact ⟨rfl, sb⟩
theorem x_strOB {o : Oper} {ρ : Operand → Value} (x : Operand) (ho : o.op = .convert 81 9 x) (v : Value) (hx : ρ x = v) (w : World) (base : Nat) (l : List UInt8) (h : OB w base v l) : (execOp ρ o).run Try.prog w = .ok (.value (.string ⟨l.toArray⟩)) w := by
 rcases h with ⟨rfl, rfl⟩ | ⟨g, cap, cur, fr, rfl, _, hg, _, _, _, hc, _⟩
 ·unfold execOp
  simp only [ho, hx, Sem.run_bind]
  rw [run_convert_bytes_string w 81 9 5 none 0 0 Try.underlying81 Try.underlying5 Try.underlying9]
  rfl
 ·exact x_str x ho g 0 cap l.length l hx rfl w ⟨fr, hg⟩ (fun j hj => by rw [Nat.zero_add]; exact hc j hj)
theorem w_and255 {P : Program} {o : Oper} {ρ : Operand → Value} (t : TypeId) (x y : Operand) (u : TypeId) (ho : o.op = .binOp .and t x y u) (n : Nat) (hx : ρ x = .int .i64 n) (hy : ρ y = .int .i64 255) (hn : n < 9223372036854775808) (w : World) :
  (execOp ρ o).run P w = .ok (.value (.int .i64 ((n % 256 : Nat) : Int))) w :=
 xi_and t x y u ho n 255 (n % 256) hx hy hn (by decide) (by rw [show (255 : Nat) = 2 ^ 8 - 1 from rfl, Nat.and_two_pow_sub_one_eq_mod]) w
set_option maxRecDepth 100000 in
set_option maxHeartbeats 2000000 in
theorem rnum_any (n s : Nat) (w : World) (hn : n < 9223372036854775808) (hs : s ≤ 8) :
  Calls Try.prog 42 #[.int .i64 (n : Nat), .int .i64 (s : Nat)] w fun e w' => e = .returned (.string ⟨(nuL n s).toArray⟩) ∧ Below w.heap.size w w' := by
 have HL : Hid (∀ k, ((nuL n s).take k).length ≤ 8) := fun k => by rw [List.length_take, nuL_length]; omega
 have HT : Hid (∀ k, k < s → (nuL n s).take k ++ [UInt8.ofNat (n / 2 ^ ((s - 1 - k) * 8) % 256)] = (nuL n s).take (k + 1)) := nuL_take n s
 have HE : Hid ((nuL n s).take s = nuL n s) := List.take_of_length_le (by rw [nuL_length]; exact Nat.le_refl _)
 obtain ⟨T, hT0⟩ : ∃ T, nuL n s = T := ⟨_, rfl⟩
 rw [hT0] at HL HT HE ⊢
 clear hT0
 have sb := Below.refl w.heap.size w
 go_enter Try.func42, Try.ntmps42
 (repeat ((fail_if_success with_reducible refine rg ?_); go_step))
 refine wp_region_pw ?_
 refine pw_move (by rfl) (.inr rfl) rfl ?_
 simp only [Act.put, pu]
 refine pw_nil ?_
 (repeat ((fail_if_success with_reducible refine rg ?_); go_step))
 refine wp_region_pw ?_
 refine pw_value (by rfl) (.slice none 0 0) ((fun _ => rfl)) ?_
 simp only [Act.put, pu]
 refine pw_nil ?_
 (repeat ((fail_if_success with_reducible refine rg ?_); go_step))
 refine wp_region_pw ?_
 refine pw_mv (by rfl) rfl rfl ?_
 simp only [Act.put, pu]
 refine pw_value (by rfl) (.int .i64 ((s : Int) - 1)) (xi_subZ _ _ _ _ rfl s 1 _ rfl rfl rfl (by omega) (by omega)) ?_
 simp only [Act.put, pu]
 refine pw_as (by rfl) rfl rfl ?_
 simp only [Act.put, pu]
 refine pw_nil ?_
 have H0 : OB w w.heap.size (.slice none 0 0) (T.take 0) := ob_nil _ _
 have H1 := sb
 clear sb
 go_wp2_with fail
 go_loopg [5, 6] s (fun x s5 s6 wr => ∃ i : Nat, i + x = s ∧ s6 = .int .i64 ((s : Int) - 1 - i) ∧ OB wr w.heap.size s5 (T.take i) ∧ Below w.heap.size w wr)
 case atStart => exact ⟨0, by omega, by rw [show ((s : Int) - 1 - (0 : Nat)) = (s : Int) - 1 by omega], H0, H1⟩
 case round =>
  clear H0 H1
  obtain ⟨i, hi, rfl, own, sb⟩ := hrel
  cases gk with
  | zero =>
   obtain rfl : i = s := by omega
   clear hi HT HL
   rw [HE.out] at own
   clear HE
   (repeat ((fail_if_success with_reducible refine rg ?_); go_step))
   refine wp_region_pw ?_
   refine pw_mv (by rfl) rfl rfl ?_
   simp only [Act.put, pu]
   refine pw_value (by rfl) (.bool false) (w_ge _ _ _ _ rfl ((i : Int) - 1 - i) 0 rfl rfl false (decide_eq_false (by omega))) ?_
   simp only [Act.put, pu]
   refine pw_nil ?_
   (repeat ((fail_if_success with_reducible refine rg ?_); go_step))
   refine wp_region_pw ?_
   refine pw_mv (by rfl) rfl rfl ?_
   simp only [Act.put, pu]
   refine pw_run (by rfl) (.string ⟨T.toArray⟩) _ (x_strOB _ rfl _ rfl _ _ _ own) ?_
   simp only [Act.put, pu]
   refine pw_as (by rfl) rfl rfl ?_
   simp only [Act.put, pu]
   refine pw_nil ?_
   go_wp2
   go_ret
   exact ⟨rfl, sb⟩
  | succ x =>
   have hT := HT.out i (by omega)
   have hll := HL.out i
   obtain ⟨q, hq⟩ : ∃ q, s - 1 - i = q := ⟨_, rfl⟩
   rw [hq] at hT
   have e1 : ((s : Int) - 1 - (i : Int)) = (q : Int) := by omega
   have e2 : ((q : Int) - 1) = ((s : Int) - 1 - ((i + 1 : Nat) : Int)) := by omega
   obtain ⟨D, hD⟩ : ∃ D, n / 2 ^ (q * 8) = D := ⟨_, rfl⟩
   have hD8 : n / 2 ^ (8 * q) = D := by rw [Nat.mul_comm]; exact hD
   rw [hD] at hT
   have hc : D % 256 < 256 := Nat.mod_lt _ (by decide)
   have hDn : D < 9223372036854775808 := by rw [← hD]; exact Nat.lt_of_le_of_lt (Nat.div_le_self _ _) hn
   have hof : (UInt8.ofNat (D % 256)).toNat = D % 256 := UInt8.toNat_ofNat_of_lt' hc
   rw [e1]
   clear e1 hD hq
   (repeat ((fail_if_success with_reducible refine rg ?_); go_step))
   refine wp_region_pw ?_
   refine pw_mv (by rfl) rfl rfl ?_
   simp only [Act.put, pu]
   refine pw_value (by rfl) (.bool true) (w_ge _ _ _ _ rfl (q : Nat) 0 rfl rfl true (decide_eq_true (by omega))) ?_
   simp only [Act.put, pu]
   refine pw_nil ?_
   (repeat ((fail_if_success with_reducible refine rg ?_); go_step))
   refine wp_region_pw ?_
   refine pw_mv (by rfl) rfl rfl ?_
   simp only [Act.put, pu]
   refine pw_mv (by rfl) rfl rfl ?_
   simp only [Act.put, pu]
   refine pw_mv (by rfl) rfl rfl ?_
   simp only [Act.put, pu]
   refine pw_value (by rfl) (.int .i64 (8 * q : Nat)) (xi_mul _ _ _ _ rfl 8 q (8 * q) rfl rfl rfl (by omega)) ?_
   simp only [Act.put, pu]
   refine pw_value (by rfl) (.int .i64 (D : Nat)) (fun w' => (xi_shr _ _ _ _ rfl n (8 * q) .i64 rfl rfl (by omega) w').trans (by rw [hD8])) ?_
   simp only [Act.put, pu]
   refine pw_value (by rfl) (.int .i64 (D % 256 : Nat)) (w_and255 _ _ _ _ rfl D rfl rfl hDn) ?_
   simp only [Act.put, pu]
   refine pw_value (by rfl) (.int .u8 (D % 256 : Nat)) (x_conv _ _ _ rfl .i64 .u8 Try.underlying3 Try.underlying5 (D % 256 : Nat) _ rfl (wrp8 _ _ (Nat.mod_mod _ _))) ?_
   simp only [Act.put, pu]
   refine pw_lit1 (by rfl) _ rfl (D % 256) rfl ?_
   replace own := own.alloc (.cells #[.int .u8 ((D % 256 : Nat) : Int)] 5)
   have hnw := bnew_one wr (D % 256) (UInt8.ofNat (D % 256)) hof 5
   replace sb := sb.alloc sb.size (.cells #[.int .u8 ((D % 256 : Nat) : Int)] 5)
   simp only [Act.put, pu]
   refine pw_app (by rfl) _ _ rfl w.heap.size _ (T.take i) [UInt8.ofNat (D % 256)] rfl own ⟨wr.heap.size, 0, none⟩ 1 1 rfl rfl hnw (by omega) sb.size ?_
   intro v8 w8 own8 gr
   replace sb := OB.grown sb own gr sb.size (Nat.le_refl _)
   clear own gr hnw
   simp only [Act.put, pu]
   refine pw_as (by rfl) rfl rfl ?_
   simp only [Act.put, pu]
   refine pw_nil ?_
   rw [hT] at own8
   clear hT hll hD8 hc hDn hof
   (repeat ((fail_if_success with_reducible refine rg ?_); go_step))
   refine wp_region_pw ?_
   refine pw_mv (by rfl) rfl rfl ?_
   simp only [Act.put, pu]
   refine pw_value (by rfl) (.int .i64 ((s : Int) - 1 - ((i + 1 : Nat) : Int))) (fun w' => (xi_subZ _ _ _ _ rfl (q : Int) 1 _ rfl rfl e2 (by omega) (by omega) w')) ?_
   simp only [Act.put, pu]
   refine pw_as (by rfl) rfl rfl ?_
   simp only [Act.put, pu]
   refine pw_nil ?_
   go_wp2
   go_roundg x
   case rel => exact ⟨i + 1, by omega, rfl, own8, sb⟩
   case measure => omega
set_option maxRecDepth 100000 in
set_option maxHeartbeats 2000000 in
theorem rpart_any (x : List UInt8) (s : Nat) (w : World) (hx : x.length < 100000) (hs : s ≤ 8) :
  Calls Try.prog 43 #[.string ⟨x.toArray⟩, .int .i64 (s : Nat)] w fun e w' => e = .returned (.string ⟨(nuL x.length s ++ x).toArray⟩) ∧ Below w.heap.size w w' := by
 have sb := Below.refl w.heap.size w
 go_enter Try.func43, Try.ntmps43
 (repeat ((fail_if_success with_reducible refine rg ?_); go_step))
 refine wp_region_pw ?_
 refine pw_move (by rfl) (.inr rfl) rfl ?_
 simp only [Act.put, pu]
 refine pw_nil ?_
 (repeat ((fail_if_success with_reducible refine rg ?_); go_step))
 refine wp_region_pw ?_
 refine pw_mv (by rfl) rfl rfl ?_
 simp only [Act.put, pu]
 refine pw_value (by rfl) (.int .i64 (x.length : Nat)) (y_lenS _ _ rfl x rfl Try.underlying9) ?_
 simp only [Act.put, pu]
 refine pw_mv (by rfl) rfl rfl ?_
 simp only [Act.put, pu]
 refine pw_callB (by rfl) 42 _ _ rfl Try.func42 (by kernel_rfl) #[.int .i64 (x.length : Nat), .int .i64 (s : Nat)] rfl _ (rnum_any x.length s _ (by omega) hs) ?_
 intro z1003 k
 simp only [Act.put, pu]
 replace sb := sb.trans (k.below w.heap.size sb.size (by simp <;> omega))
 clear k
 refine pw_mv (by rfl) rfl rfl ?_
 simp only [Act.put, pu]
 refine pw_value (by rfl) (.string ⟨(nuL x.length s ++ x).toArray⟩) (yx_cat _ _ _ _ rfl (nuL x.length s) x rfl rfl (by rw [nuL_length]; omega)) ?_
 simp only [Act.put, pu]
 refine pw_as (by rfl) rfl rfl ?_
 simp only [Act.put, pu]
 refine pw_nil ?_
 go_wp2
 go_ret
 exact ⟨rfl, sb⟩
end Go.Proofs.Ytojobffihlmfgaa
