/- wire's source: bytes that are read. -/
import Derived.Test.YtojobffihlmfgaaWRB
import Derived.Test.YtojobffihlmfgaaSI
import Derived.Test.YtojobffihlmfgaaWRA
import Derived.Test.YtojobffihlmfgaaMxRefB
import Derived.Test.YtojobffihlmfgaaBT
namespace Go.Proofs.Ytojobffihlmfgaa
open Go.RowKit
set_option linter.unusedVariables false
set_option linter.unusedSimpArgs false
theorem info_so : (Try.prog.info? 64).map (fun i => (i.zero, i.size)) = some (some (.agg #[.string ⟨#[]⟩]), 1) := by kernel_rfl
theorem zero_so (w : World) : (zeroValue 64).run Try.prog w = .ok (.agg #[.string ⟨#[]⟩]) w := (zero_of_info info_so).1 w
theorem size_so : (Try.prog.info? 64).map (·.size) = some 1 := (zero_of_info info_so).2
theorem so_one (l : List UInt8) : (#[.string ⟨l.toArray⟩] : Array Value).all (·.oneCell') = true := by simp [Value.oneCell']
theorem built_so (l : List UInt8) : Try.prog.built 64 [(0, .string ⟨l.toArray⟩)] = some #[.string ⟨l.toArray⟩] := by kernel_rfl
theorem w_ri (n : Nat) (h : n < 256) : IntKind.i64.wrap (n : Int) = (n : Int) := by rw [IntKind.wrap_i64]; omega
/-- The number that bytes say, the highest first. -/
def nuV : List UInt8 → Nat → Nat
 | _, 0 => 0
 | l, k + 1 => nuV l k * 256 + bf l k
theorem nuV_lt (l : List UInt8) : ∀ k, nuV l k < 256 ^ k
 | 0 => Nat.one_pos
 | k + 1 => by
  have h1 := nuV_lt l k
  have h2 := bf_lt l k
  show nuV l k * 256 + bf l k < 256 ^ k * 256
  omega
theorem or_add (a b : Nat) (hb : b < 256) : a * 256 ||| b = a * 256 + b := by
 have := Nat.two_pow_add_eq_or_of_lt (i := 8) hb a
 rw [Nat.mul_comm a 256]
 exact this.symm
set_option maxRecDepth 100000 in
set_option maxHeartbeats 2000000 in
theorem stake_ok (L : List UInt8) (c g0 : Nat) (w : World) (r0 : Row w g0 #[.string ⟨L.toArray⟩] 64) (h : c ≤ L.length) :
  Calls Try.prog 57 #[.pointer (some ⟨g0, 0, none⟩), .int .i64 (c : Nat)] w fun e w' => e = .returned (.string ⟨(L.take c).toArray⟩) ∧ Row w' g0 #[.string ⟨(L.drop c).toArray⟩] 64 ∧ Kept [g0] w w' := by
 have sk := Kept.refl [g0] w
 have l0 := r0.lt
 go_enter Try.func57, Try.ntmps57
 (repeat ((fail_if_success with_reducible refine rg ?_); go_step))
 refine wp_region_pw ?_
 refine pw_move (by rfl) (.inr rfl) rfl ?_
 simp only [Act.put, pu]
 refine pw_nil ?_
 (repeat ((fail_if_success with_reducible refine rg ?_); go_step))
 refine wp_region_pw ?_
 refine pw_mv (by rfl) rfl rfl ?_
 simp only [Act.put, pu]
 refine pw_mv (by rfl) rfl rfl ?_
 simp only [Act.put, pu]
 refine pw_value (by rfl) (.pointer (some ⟨g0, 0, none⟩)) (exec_nil _ rfl g0 0 rfl) ?_
 simp only [Act.put, pu]
 refine pw_value (by rfl) (.pointer (some ⟨g0, 0, none⟩)) (exec_field 64 _ 0 rfl g0 0 rfl _ Try.underlying64 _ rfl 0 Try.sizeOf9) ?_
 simp only [Act.put, pu]
 refine pw_loadk (by rfl) 9 _ rfl _ (0) rfl r0.r (.string ⟨L.toArray⟩) rfl Try.isAgg9 ?_
 simp only [Act.put, pu]
 refine pw_value (by rfl) (.int .i64 (L.length : Nat)) (y_lenS _ _ rfl L rfl Try.underlying9) ?_
 simp only [Act.put, pu]
 refine pw_value (by rfl) (.bool true) (w_le _ _ _ _ rfl (c : Nat) (L.length : Nat) rfl rfl true (decide_eq_true (by omega))) ?_
 simp only [Act.put, pu]
 refine pw_callB (by rfl) 24 _ _ rfl Try.func24 (by kernel_rfl) #[.bool true, .int .i64 4] rfl _ (insist_any true 4 _) ?_
 intro z1007 k
 simp only [Act.put, pu]
 replace r0 := k.row r0 (by simp <;> omega)
 replace sk := sk.trans k (by simp <;> omega)
 clear k
 refine pw_nil ?_
 (repeat ((fail_if_success with_reducible refine rg ?_); go_step))
 refine wp_region_pw ?_
 refine pw_mv (by rfl) rfl rfl ?_
 simp only [Act.put, pu]
 refine pw_value (by rfl) (.pointer (some ⟨g0, 0, none⟩)) (exec_nil _ rfl g0 0 rfl) ?_
 simp only [Act.put, pu]
 refine pw_value (by rfl) (.pointer (some ⟨g0, 0, none⟩)) (exec_field 64 _ 0 rfl g0 0 rfl _ Try.underlying64 _ rfl 0 Try.sizeOf9) ?_
 simp only [Act.put, pu]
 refine pw_loadk (by rfl) 9 _ rfl _ (0) rfl r0.r (.string ⟨L.toArray⟩) rfl Try.isAgg9 ?_
 simp only [Act.put, pu]
 refine pw_mv (by rfl) rfl rfl ?_
 simp only [Act.put, pu]
 refine pw_value (by rfl) (.string ⟨(L.take c).toArray⟩) (y_upto _ _ _ Try.underlying9 rfl L c rfl rfl h) ?_
 simp only [Act.put, pu]
 refine pw_as (by rfl) rfl rfl ?_
 simp only [Act.put, pu]
 refine pw_nil ?_
 (repeat ((fail_if_success with_reducible refine rg ?_); go_step))
 refine wp_region_pw ?_
 refine pw_mv (by rfl) rfl rfl ?_
 simp only [Act.put, pu]
 refine pw_mv (by rfl) rfl rfl ?_
 simp only [Act.put, pu]
 refine pw_value (by rfl) (.pointer (some ⟨g0, 0, none⟩)) (exec_nil _ rfl g0 0 rfl) ?_
 simp only [Act.put, pu]
 refine pw_value (by rfl) (.pointer (some ⟨g0, 0, none⟩)) (exec_field 64 _ 0 rfl g0 0 rfl _ Try.underlying64 _ rfl 0 Try.sizeOf9) ?_
 simp only [Act.put, pu]
 refine pw_loadk (by rfl) 9 _ rfl _ (0) rfl r0.r (.string ⟨L.toArray⟩) rfl Try.isAgg9 ?_
 simp only [Act.put, pu]
 refine pw_mv (by rfl) rfl rfl ?_
 simp only [Act.put, pu]
 refine pw_value (by rfl) (.string ⟨(L.drop c).toArray⟩) (y_from _ _ _ Try.underlying9 rfl L c rfl rfl h) ?_
 simp only [Act.put, pu]
 refine pw_value (by rfl) (.pointer (some ⟨g0, 0, none⟩)) (exec_nil _ rfl g0 0 rfl) ?_
 simp only [Act.put, pu]
 refine pw_value (by rfl) (.pointer (some ⟨g0, 0, none⟩)) (exec_field 64 _ 0 rfl g0 0 rfl _ Try.underlying64 _ rfl 0 Try.sizeOf9) ?_
 simp only [Act.put, pu]
 refine pw_putv (by rfl) 9 _ _ rfl _ (0) rfl r0 (.string ⟨(L.drop c).toArray⟩) rfl rfl rfl size1tstring (by exact Nat.one_pos) (#[.string ⟨(L.drop c).toArray⟩]) rfl ?_
 clear r0
 intro z3009 r0 k
 simp only [Act.put]
 replace sk := sk.trans k (by simp <;> omega)
 clear k
 refine pw_nil ?_
 (repeat ((fail_if_success with_reducible refine rg ?_); go_step))
 refine wp_region_pw ?_
 refine pw_mv (by rfl) rfl rfl ?_
 simp only [Act.put, pu]
 refine pw_as (by rfl) rfl rfl ?_
 simp only [Act.put, pu]
 refine pw_nil ?_
 go_wp2
 go_ret
 exact ⟨rfl, r0, sk⟩
set_option maxRecDepth 100000 in
set_option maxHeartbeats 2000000 in
theorem stake_no (L : List UInt8) (c g0 : Nat) (w : World) (r0 : Row w g0 #[.string ⟨L.toArray⟩] 64) (h : L.length < c) :
  Calls Try.prog 57 #[.pointer (some ⟨g0, 0, none⟩), .int .i64 (c : Nat)] w fun e w' => e = .panicked (wrP 4) ∧ Kept [g0] w w' := by
 have sk := Kept.refl [g0] w
 have l0 := r0.lt
 go_enter Try.func57, Try.ntmps57
 (repeat ((fail_if_success with_reducible refine rg ?_); go_step))
 refine wp_region_pw ?_
 refine pw_move (by rfl) (.inr rfl) rfl ?_
 simp only [Act.put, pu]
 refine pw_nil ?_
 (repeat ((fail_if_success with_reducible refine rg ?_); go_step))
 refine wp_region_pw ?_
 refine pw_mv (by rfl) rfl rfl ?_
 simp only [Act.put, pu]
 refine pw_mv (by rfl) rfl rfl ?_
 simp only [Act.put, pu]
 refine pw_value (by rfl) (.pointer (some ⟨g0, 0, none⟩)) (exec_nil _ rfl g0 0 rfl) ?_
 simp only [Act.put, pu]
 refine pw_value (by rfl) (.pointer (some ⟨g0, 0, none⟩)) (exec_field 64 _ 0 rfl g0 0 rfl _ Try.underlying64 _ rfl 0 Try.sizeOf9) ?_
 simp only [Act.put, pu]
 refine pw_loadk (by rfl) 9 _ rfl _ (0) rfl r0.r (.string ⟨L.toArray⟩) rfl Try.isAgg9 ?_
 simp only [Act.put, pu]
 refine pw_value (by rfl) (.int .i64 (L.length : Nat)) (y_lenS _ _ rfl L rfl Try.underlying9) ?_
 simp only [Act.put, pu]
 refine pw_value (by rfl) (.bool false) (w_le _ _ _ _ rfl (c : Nat) (L.length : Nat) rfl rfl false (decide_eq_false (by omega))) ?_
 simp only [Act.put, pu]
 refine pw_callP (by rfl) 24 _ _ rfl Try.func24 (by kernel_rfl) #[.bool false, .int .i64 4] rfl (insist_any false 4 _) ?_
 intro z1007 hb
 exact ⟨rfl, rfl, sk.trans (Kept.ofBelow hb) (by simp)⟩
set_option maxRecDepth 100000 in
set_option maxHeartbeats 2000000 in
theorem snum_ok (L : List UInt8) (s g0 : Nat) (w : World) (r0 : Row w g0 #[.string ⟨L.toArray⟩] 64) (hs : 1 ≤ s) (hs6 : s ≤ 6) (h : s ≤ L.length) :
  Calls Try.prog 30 #[.pointer (some ⟨g0, 0, none⟩), .int .i64 (s : Nat)] w fun e w' => e = .returned (.int .i64 (nuV (L.take s) s : Nat)) ∧ Row w' g0 #[.string ⟨(L.drop s).toArray⟩] 64 ∧ Kept [g0] w w' := by
 have sk := Kept.refl [g0] w
 have l0 := r0.lt
 have hTl : (L.take s).length = s := by rw [List.length_take]; omega
 have HV : Hid (∀ k, k ≤ s → nuV (L.take s) k < 281474976710656) := fun k hk => Nat.lt_of_lt_of_le (nuV_lt _ k) (by
  have : 256 ^ k ≤ 256 ^ 6 := Nat.pow_le_pow_right (by decide) (by omega)
  omega)
 have hst := fun w' (r : Row w' g0 #[.string ⟨L.toArray⟩] 64) => stake_ok L s g0 w' r h
 obtain ⟨T, hT0⟩ : ∃ T, L.take s = T := ⟨_, rfl⟩
 rw [hT0] at hTl HV hst ⊢
 clear hT0
 obtain ⟨D, hD0⟩ : ∃ D, L.drop s = D := ⟨_, rfl⟩
 rw [hD0] at hst ⊢
 clear hD0
 go_enter Try.func30, Try.ntmps30
 (repeat ((fail_if_success with_reducible refine rg ?_); go_step))
 refine wp_region_pw ?_
 refine pw_value (by rfl) (.int .i64 0) (fun _ => rfl) ?_
 simp only [Act.put, pu]
 refine pw_nil ?_
 (repeat ((fail_if_success with_reducible refine rg ?_); go_step))
 refine wp_region_pw ?_
 refine pw_value (by rfl) (.int .i64 0) (fun _ => rfl) ?_
 simp only [Act.put, pu]
 refine pw_nil ?_
 (repeat ((fail_if_success with_reducible refine rg ?_); go_step))
 refine wp_region_pw ?_
 refine pw_mv (by rfl) rfl rfl ?_
 simp only [Act.put, pu]
 refine pw_mv (by rfl) rfl rfl ?_
 simp only [Act.put, pu]
 refine pw_callE (by rfl) 57 _ _ rfl Try.func57 (by kernel_rfl) #[.pointer (some ⟨g0, 0, none⟩), .int .i64 (s : Nat)] rfl (hst _ r0) ?_
 have cr0 := r0.lt
 clear r0
 rintro _ z2002 ⟨rfl, r0, k⟩
 refine ⟨_, rfl, ?_⟩
 simp only [Act.put, pu]
 clear cr0
 replace sk := sk.trans k (by simp <;> omega)
 clear k
 refine pw_conv (by rfl) _ rfl T rfl w.heap.size sk.size (by unfold maxLen; omega) ?_
 intro v11 z11 own hb
 simp only [Act.put, pu]
 replace r0 := r0.belowAll hb
 replace sk := sk.trans (Kept.ofBelow hb) (by simp)
 clear hb
 rcases own with ⟨_, hx⟩ | ⟨gV, cap, cur, fr, rfl, hbg, hgV, hlc, hcm, hcs, hcl, _⟩
 ·rw [hx] at hTl; exact absurd hTl (by simp; omega)
 rw [hTl] at hcl hlc ⊢
 have rV : RowR z11 gV cur 5 := ⟨fr, hgV⟩
 clear hgV
 refine pw_value (by rfl) (.int .i64 (s : Nat)) (exec_len_s 81 _ rfl (some ⟨gV, 0, none⟩) s cap rfl Try.underlying81) ?_
 simp only [Act.put, pu]
 refine pw_value (by rfl) (.int .i64 0) (fun _ => rfl) ?_
 simp only [Act.put, pu]
 refine pw_nil ?_
 have H0 := r0
 have H1 := sk
 have H2 := rV
 have hgn : gV ≠ g0 := by omega
 clear r0 sk rV hst
 go_wp2_with fail
 go_loopg [5, 7, 13] s (fun x s5 s7 s13 wr => ∃ i : Nat, i + x = s ∧ s13 = .int .i64 i ∧ s5 = .int .i64 (nuV T i : Nat) ∧ Row wr g0 #[.string ⟨D.toArray⟩] 64 ∧ RowR wr gV cur 5 ∧ Kept [g0] w wr)
 case atStart => exact ⟨0, by omega, rfl, rfl, H0, H2, H1⟩
 case round =>
  clear H0 H1 H2
  obtain ⟨i, hi, rfl, rfl, r0, rV, sk⟩ := hrel
  cases gk with
  | zero =>
   obtain rfl : i = s := by omega
   clear hi
   (repeat ((fail_if_success with_reducible refine rg ?_); go_step))
   refine wp_region_pw ?_
   refine pw_value (by rfl) (.bool false) (exec_lt_b _ _ _ _ rfl i i rfl rfl false (decide_eq_false (Int.lt_irrefl _))) ?_
   simp only [Act.put, pu]
   refine pw_nil ?_
   (repeat ((fail_if_success with_reducible refine rg ?_); go_step))
   refine wp_region_pw ?_
   refine pw_mv (by rfl) rfl rfl ?_
   simp only [Act.put, pu]
   refine pw_as (by rfl) rfl rfl ?_
   simp only [Act.put, pu]
   refine pw_nil ?_
   go_wp2
   go_ret
   exact ⟨rfl, r0, sk⟩
  | succ x =>
   have hv1 := HV.out i (by omega)
   have hv2 := HV.out (i + 1) (by omega)
   have hb8 := bf_lt T i
   have hci := hcl i (by omega)
   have eV : nuV T (i + 1) = nuV T i * 256 + bf T i := rfl
   have eO := or_add (nuV T i) (bf T i) hb8
   rw [← eV] at eO
   clear eV
   generalize hV2 : nuV T (i + 1) = V2 at *
   generalize nuV T i = V1 at *
   generalize bf T i = b1 at *
   (repeat ((fail_if_success with_reducible refine rg ?_); go_step))
   refine wp_region_pw ?_
   refine pw_value (by rfl) (.bool true) (exec_lt_b _ _ _ _ rfl i s rfl rfl true (decide_eq_true (by omega))) ?_
   simp only [Act.put, pu]
   refine pw_nil ?_
   (repeat ((fail_if_success with_reducible refine rg ?_); go_step))
   refine wp_region_pw ?_
   refine pw_value (by rfl) (.pointer (some ⟨gV, i, none⟩)) (x_idxS _ _ _ rfl gV 0 s cap rfl i rfl (by omega) _ Try.underlying81 Try.sizeOf5 i (Nat.zero_add i)) ?_
   simp only [Act.put, pu]
   refine pw_loadk (by rfl) 5 _ rfl _ (i) rfl rV (.int .u8 (b1 : Nat)) hci Try.isAgg5 ?_
   simp only [Act.put, pu]
   refine pw_as (by rfl) rfl rfl ?_
   simp only [Act.put, pu]
   refine pw_nil ?_
   (repeat ((fail_if_success with_reducible refine rg ?_); go_step))
   refine wp_region_pw ?_
   refine pw_mv (by rfl) rfl rfl ?_
   simp only [Act.put, pu]
   refine pw_value (by rfl) (.int .i64 (V1 * 256 : Nat)) (xi_shl _ _ _ _ rfl V1 8 .u64 rfl rfl (by decide) (by omega)) ?_
   simp only [Act.put, pu]
   refine pw_mv (by rfl) rfl rfl ?_
   simp only [Act.put, pu]
   refine pw_value (by rfl) (.int .i64 (b1 : Nat)) (x_conv _ _ _ rfl .u8 .i64 Try.underlying5 Try.underlying3 (b1 : Nat) _ rfl (w_ri _ hb8)) ?_
   simp only [Act.put, pu]
   refine pw_value (by rfl) (.int .i64 (V2 : Nat)) (fun w' => (xi_or _ _ _ _ rfl (V1 * 256) b1 rfl rfl (by omega) (by omega) w').trans (by rw [eO])) ?_
   simp only [Act.put, pu]
   refine pw_as (by rfl) rfl rfl ?_
   simp only [Act.put, pu]
   refine pw_nil ?_
   clear hv1 hv2 hb8 hci eO
   (repeat ((fail_if_success with_reducible refine rg ?_); go_step))
   refine wp_region_pw ?_
   refine pw_value (by rfl) (.int .i64 (i + 1 : Nat)) (xi_add _ _ _ _ rfl i 1 rfl rfl (by omega)) ?_
   simp only [Act.put, pu]
   refine pw_mv (by rfl) rfl rfl ?_
   simp only [Act.put, pu]
   refine pw_nil ?_
   go_wp2
   go_roundg x
   case rel => exact ⟨i + 1, by omega, rfl, by rw [hV2], r0, rV, sk⟩
   case measure => omega
set_option maxRecDepth 100000 in
set_option maxHeartbeats 2000000 in
theorem stext_ok (L : List UInt8) (s c g0 : Nat) (w : World) (r0 : Row w g0 #[.string ⟨L.toArray⟩] 64) (hs : 1 ≤ s) (hs6 : s ≤ 6) (h : s ≤ L.length) (hc : nuV (L.take s) s = c) (h2 : c ≤ (L.drop s).length) :
  Calls Try.prog 31 #[.pointer (some ⟨g0, 0, none⟩), .int .i64 (s : Nat)] w fun e w' => e = .returned (.string ⟨((L.drop s).take c).toArray⟩) ∧ Row w' g0 #[.string ⟨((L.drop s).drop c).toArray⟩] 64 ∧ Kept [g0] w w' := by
 have sk := Kept.refl [g0] w
 have l0 := r0.lt
 have hn := fun w' (r : Row w' g0 #[.string ⟨L.toArray⟩] 64) => snum_ok L s g0 w' r hs hs6 h
 rw [hc] at hn
 go_enter Try.func31, Try.ntmps31
 (repeat ((fail_if_success with_reducible refine rg ?_); go_step))
 refine wp_region_pw ?_
 refine pw_move (by rfl) (.inr rfl) rfl ?_
 simp only [Act.put, pu]
 refine pw_nil ?_
 (repeat ((fail_if_success with_reducible refine rg ?_); go_step))
 refine wp_region_pw ?_
 refine pw_mv (by rfl) rfl rfl ?_
 simp only [Act.put, pu]
 refine pw_mv (by rfl) rfl rfl ?_
 simp only [Act.put, pu]
 refine pw_mv (by rfl) rfl rfl ?_
 simp only [Act.put, pu]
 refine pw_callE (by rfl) 30 _ _ rfl Try.func30 (by kernel_rfl) #[.pointer (some ⟨g0, 0, none⟩), .int .i64 (s : Nat)] rfl (hn _ r0) ?_
 have cr0 := r0.lt
 clear r0
 rintro _ z1003 ⟨rfl, r0, k⟩
 refine ⟨_, rfl, ?_⟩
 simp only [Act.put, pu]
 clear cr0
 replace sk := sk.trans k (by simp <;> omega)
 clear k
 refine pw_callE (by rfl) 57 _ _ rfl Try.func57 (by kernel_rfl) #[.pointer (some ⟨g0, 0, none⟩), .int .i64 (c : Nat)] rfl (stake_ok (L.drop s) c g0 _ r0 h2) ?_
 have cr0 := r0.lt
 clear r0
 rintro _ z1004 ⟨rfl, r0, k⟩
 refine ⟨_, rfl, ?_⟩
 simp only [Act.put, pu]
 clear cr0
 replace sk := sk.trans k (by simp <;> omega)
 clear k
 refine pw_as (by rfl) rfl rfl ?_
 simp only [Act.put, pu]
 refine pw_nil ?_
 go_wp2
 go_ret
 exact ⟨rfl, r0, sk⟩
end Go.Proofs.Ytojobffihlmfgaa
/- The document's functions of layer 18: Key, Stamp, bare, carries, num, part. -/
namespace Go.Proofs.Ytojobffihlmfgaa
open Go.RowKit
set_option linter.unusedVariables false
set_option linter.unusedSimpArgs false
end Go.Proofs.Ytojobffihlmfgaa
