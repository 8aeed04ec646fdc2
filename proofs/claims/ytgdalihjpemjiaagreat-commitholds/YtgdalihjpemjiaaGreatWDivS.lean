import Derived.Test.YtgdalihjpemjiaaGreatWDiv64
import Derived.Test.YtgdalihjpemjiaaGreatGS
set_option maxRecDepth 100000
set_option maxHeartbeats 2000000
namespace Go.Proofs.YtgdalihjpemjiaaGreat
set_option linter.unusedVariables false
open Go.RowKit
section
variable {P : Program} {o : Oper} {ρ : Operand → Value}
theorem exec_leq_u (t : TypeId) (x y : Operand) (u : TypeId) (ho : o.op = .binOp .leq t x y u) (n m : Int) (hx : ρ x = .int .u64 n) (hy : ρ y = .int .u64 m) (b : Bool) (hb : decide (n ≤ m) = b) (w : World) :
  (execOp ρ o).run P w = .ok (.value (.bool b)) w := by
 subst hb
 unfold execOp
 simp only [ho, hx, hy]
 simp [go_sem]
theorem exec_shr_r (t : TypeId) (x y : Operand) (u : TypeId) (ho : o.op = .binOp .shr t x y u) (n s r : Nat) (hx : ρ x = .int .u64 n) (hy : ρ y = .int .u64 s) (hs : s < 64) (hr : n / 2 ^ s = r) (w : World) :
  (execOp ρ o).run P w = .ok (.value (.int .u64 (r : Int))) w := by
 subst hr
 unfold execOp
 simp only [ho, hx, hy]
 simp [go_sem]
theorem exec_shl_r (t : TypeId) (x y : Operand) (u : TypeId) (ho : o.op = .binOp .shl t x y u) (n s r : Nat) (hx : ρ x = .int .u64 n) (hy : ρ y = .int .u64 s) (hs : s < 64) (hr : n * 2 ^ s % 18446744073709551616 = r) (w : World) :
  (execOp ρ o).run P w = .ok (.value (.int .u64 (r : Int))) w := by
 subst hr
 unfold execOp
 simp only [ho, hx, hy]
 simp [go_sem, IntKind.wrap_u64]
theorem exec_and_r (t : TypeId) (x y : Operand) (u : TypeId) (ho : o.op = .binOp .and t x y u) (n m r : Int) (hx : ρ x = .int .u64 n) (hy : ρ y = .int .u64 m) (hr : bits .and .u64 n m = r) (w : World) :
  (execOp ρ o).run P w = .ok (.value (.int .u64 r)) w := by
 subst hr
 unfold execOp
 simp only [ho, hx, hy]
 simp [go_sem]
theorem exec_or_r (t : TypeId) (x y : Operand) (u : TypeId) (ho : o.op = .binOp .or t x y u) (n m r : Int) (hx : ρ x = .int .u64 n) (hy : ρ y = .int .u64 m) (hr : bits .or .u64 n m = r) (w : World) :
  (execOp ρ o).run P w = .ok (.value (.int .u64 r)) w := by
 subst hr
 unfold execOp
 simp only [ho, hx, hy]
 simp [go_sem]
theorem exec_sub_r (t : TypeId) (x y : Operand) (u : TypeId) (ho : o.op = .binOp .sub t x y u) (n m : Nat) (r : Nat) (hx : ρ x = .int .u64 n) (hy : ρ y = .int .u64 m) (hm : m ≤ n) (hn : n < 18446744073709551616) (hr : n - m = r) (w : World) :
  (execOp ρ o).run P w = .ok (.value (.int .u64 (r : Int))) w := by
 subst hr
 unfold execOp
 simp only [ho, hx, hy]
 simp [go_sem]
 rw [IntKind.wrap_u64]
 omega
theorem exec_mul_r (t : TypeId) (x y : Operand) (u : TypeId) (ho : o.op = .binOp .mul t x y u) (n m r : Nat) (hx : ρ x = .int .u64 n) (hy : ρ y = .int .u64 m) (hr : n * m = r) (hl : r < 18446744073709551616) (w : World) :
  (execOp ρ o).run P w = .ok (.value (.int .u64 (r : Int))) w := by
 subst hr
 unfold execOp
 simp only [ho, hx, hy]
 simp [go_sem]
 rw [← Int.natCast_mul, IntKind.wrap_u64]
 omega
theorem exec_quo_r (t : TypeId) (x y : Operand) (u : TypeId) (ho : o.op = .binOp .quo t x y u) (n m r : Nat) (hx : ρ x = .int .u64 n) (hy : ρ y = .int .u64 m) (hm : 0 < m) (hn : n < 18446744073709551616) (hr : n / m = r) (w : World) :
  (execOp ρ o).run P w = .ok (.value (.int .u64 (r : Int))) w := by
 have hm0 : ¬ m = 0 := by omega
 have h1 : n / m < 18446744073709551616 := Nat.lt_of_le_of_lt (Nat.div_le_self _ _) hn
 subst hr
 unfold execOp
 simp only [ho, hx, hy]
 simp [go_sem, hm0]
 rw [show (n : Int) / (m : Int) = ((n / m : Nat) : Int) by simp, IntKind.wrap_u64]
 generalize n / m = q at *
 omega
end
theorem exec_conv_iu {o : Oper} {ρ : Operand → Value} (x : Operand) (ho : o.op = .convert 3 164 x) (n : Nat) (hx : ρ x = .int .i64 n) (h : n < 9223372036854775808) (w : World) :
  (execOp ρ o).run Tryz.prog w = .ok (.value (.int .u64 n)) w := by
 have u1 := Tryz.underlying3
 have u2 := Tryz.underlying164
 unfold execOp
 simp only [ho, hx]
 simp [convert, run_underlying u1, run_underlying u2, go_sem]
 rw [IntKind.wrap_u64]
 omega
theorem exec_conv_iw {o : Oper} {ρ : Operand → Value} (x : Operand) (ho : o.op = .convert 3 38 x) (n : Nat) (hx : ρ x = .int .i64 n) (h : n < 9223372036854775808) (w : World) :
  (execOp ρ o).run Tryz.prog w = .ok (.value (.int .u64 n)) w := by
 have u1 := Tryz.underlying3
 have u2 := Tryz.underlying38
 unfold execOp
 simp only [ho, hx]
 simp [convert, run_underlying u1, run_underlying u2, go_sem]
 rw [IntKind.wrap_u64]
 omega
theorem bitLen_le64 (x : Nat) (h : x < 18446744073709551616) : bitLen x ≤ 64 := bitLen_to x 64 h
theorem lzs_any (x : Nat) (w : World) (h1 : x < 18446744073709551616) :
  Calls Tryz.prog 136 #[.int .u64 x] w fun e w' => e = .returned (.int .i64 (64 - bitLen x : Nat)) ∧ Below w.heap.size w w' := by
 have hl := bitLen_le64 x h1
 have hle := fun w' => len64_any x w' h1
 clear h1
 generalize bitLen x = L at *
 have hw : IntKind.i64.wrap (64 - (L : Int)) = ((64 - L : Nat) : Int) := by rw [IntKind.wrap_i64]; omega
 go_enter Tryz.func136, Tryz.ntmps136
 go_wp2_with fail
 refine (hle _).mono ?_
 rintro e w2 ⟨rfl, rfl⟩
 go_wp2
 go_ret
 exact ⟨rfl, Below.refl _ _⟩
theorem div64s_zero (l y : Nat) (w : World) (hh : 0 < y) :
  Calls Tryz.prog 109 #[.int .u64 (0 : Nat), .int .u64 l, .int .u64 y] w fun e w' => e = .returned (.tuple #[.int .u64 (IntKind.u64.wrap ((l : Int).tdiv y)), .int .u64 ((l : Int).tmod y)]) ∧ Below w.heap.size w w' := by
 have y0 : ¬ (y : Int) = 0 := by omega
 have y1 : ¬ (y : Int) ≤ 0 := by omega
 go_enter Tryz.func109, Tryz.ntmps109
 go_wp2_with fail
 go_region
 all_goals
  go_wp2
  go_ret2
  exact ⟨rfl, (Below.refl _ _).drew⟩
set_option maxHeartbeats 4000000 in
theorem div64s_more (a b m s h l y h1s l1s v v0 x0 x1 Q P d U Q2 P2 d0 Z : Nat) (w : World) (ha : 0 < a) (ham : a < m) (hs0 : 0 < s) (hs64 : s < 64)
  (hlz : ∀ w', Calls Tryz.prog 136 #[.int .u64 m] w' fun e w2 => e = .returned (.int .i64 s) ∧ Below w'.heap.size w' w2)
  (eY : m * 2 ^ s % 18446744073709551616 = y) (eh1 : a * 2 ^ s % 18446744073709551616 = h1s) (el1 : b / 2 ^ (64 - s) = l1s) (eH : bits .or .u64 (h1s : Int) (l1s : Int) = (h : Int)) (eL : b * 2 ^ s % 18446744073709551616 = l)
  (hh : h < y) (hl : l < 18446744073709551616) (hy : 9223372036854775808 ≤ y) (hy2 : y < 18446744073709551616)
  (ev : v = y / 4294967296) (ev0 : v0 = y % 4294967296) (ex1 : x1 = l / 4294967296) (ex0 : x0 = l % 4294967296) (eQ : Q = h / v) (eP : P = Q * v) (ed : d32 h x1 y = d) (eU : U = h * 4294967296 + x1 - d * y)
  (eQ2 : Q2 = U / v) (eP2 : P2 = Q2 * v) (ed0 : d32 U x0 y = d0) (eZ : Z = U * 4294967296 + x0 - d0 * y) :
  Calls Tryz.prog 109 #[.int .u64 a, .int .u64 b, .int .u64 m] w fun e w' => e = .returned (.tuple #[.int .u64 ((d : Int) * 4294967296 + d0), .int .u64 ((Z / 2 ^ s : Nat) : Int)]) ∧ Below w.heap.size w w' := by
 have G0 : Hid (Gu h x1 y Q (h - P)) := by
  have := gu_first h x1 y (by omega) hy
  rw [← ev, ← eQ, ← eP] at this
  exact this
 have hPle : P ≤ h := by rw [eP, eQ]; exact Nat.div_mul_le_self _ _
 have hPr : h - P < 4294967296 := by
  have := Nat.lt_div_mul_add (a := h) (b := v) (by omega)
  rw [eP, eQ]; omega
 have hQ : Q < 8589934592 := gu_lt h x1 y Q _ G0.out (by omega) hy
 have hd1 := d32_lt h x1 y hh (by omega)
 have hv : 2147483648 ≤ v ∧ v < 4294967296 := by omega
 have hv0 : v0 < 4294967296 := by omega
 have hx1 : x1 < 4294967296 := by omega
 have hx0 : x0 < 4294967296 := by omega
 have td : (h : Int).tdiv (v : Int) = (Q : Int) := by rw [eQ]; simp
 have tp : (Q : Int) * (v : Int) = (P : Int) := by rw [eP]; simp
 have tv : (y : Int) / 4294967296 = (v : Int) := by rw [ev]; simp
 have tv0 : bits .and .u64 (y : Int) 4294967295 = (v0 : Int) := by rw [ev0]; exact maskN y hy2
 have tx1 : (l : Int) / 4294967296 = (x1 : Int) := by rw [ex1]; simp
 have tx0 : bits .and .u64 (l : Int) 4294967295 = (x0 : Int) := by rw [ex0]; exact maskN l hl
 have tU : IntKind.u64.wrap (IntKind.u64.wrap (IntKind.u64.wrap ((h : Int) * 4294967296) + (x1 : Int)) - IntKind.u64.wrap ((d : Int) * (y : Int))) = (U : Int) := by rw [eU, ← ed]; exact d32_wrap h x1 y (by omega) hy2
 have hUy : U < y := by rw [eU, ← ed]; exact (d32_rest h x1 y (by omega)).2
 have hd0 := d32_lt U x0 y hUy hx0
 have hg0 : d ≤ Q := by have := G0.out.le; rw [ed] at this; exact this
 have G2 : Hid (Gu U x0 y Q2 (U - P2)) := by
  have := gu_first U x0 y hx0 hy
  rw [← ev, ← eQ2, ← eP2] at this
  exact this
 have hP2 : P2 ≤ U := by rw [eP2, eQ2]; exact Nat.div_mul_le_self _ _
 have hPr2 : U - P2 < 4294967296 := by
  have := Nat.lt_div_mul_add (a := U) (b := v) (by omega)
  rw [eP2, eQ2]; omega
 have td2 : (U : Int).tdiv (v : Int) = (Q2 : Int) := by rw [eQ2]; simp
 have tp2 : (Q2 : Int) * (v : Int) = (P2 : Int) := by rw [eP2]; simp
 have hQ2 : Q2 < 8589934592 := gu_lt U x0 y Q2 _ G2.out (by omega) hy
 have hg2 : d0 ≤ Q2 := by have := G2.out.le; rw [ed0] at this; exact this
 have HD : Hid (d32 h x1 y = d) := ed
 have HD0 : Hid (d32 U x0 y = d0) := ed0
 rw [ed] at hd1
 rw [ed0] at hd0
 have E : Hid (v = y / 4294967296 ∧ v0 = y % 4294967296) := ⟨ev, ev0⟩
 have tZ : IntKind.u64.wrap (IntKind.u64.wrap (IntKind.u64.wrap ((U : Int) * 4294967296) + (x0 : Int)) - IntKind.u64.wrap ((d0 : Int) * (y : Int))) = (Z : Int) := by rw [eZ, ← HD0.out]; exact d32_wrap U x0 y (by omega) hy2
 have hPq : Q * v = P := eP.symm
 have y0 : ¬ (y : Int) = 0 := by omega
 have y1 : ¬ (y : Int) ≤ h := by omega
 have yv : ¬ (v : Int) = 0 := by omega
 have e9 : y / 2 ^ 32 = v := ev.symm
 have e13 : l / 2 ^ 32 = x1 := ex1.symm
 have e15 : h / v = Q := eQ.symm
 go_enter Tryz.func109, Tryz.ntmps109
 repeat ((fail_if_success with_reducible apply rg); go_step)
 apply wp_region_mixq [] [_, _] trivial List.nodup_nil rfl
 intro p
 refine mx_val (.int .u64 0) (fun _ => rfl) ?_
 simp only [pv]
 refine mx_val (.int .u64 0) (fun _ => rfl) ?_
 simp only [pv]
 refine mx_end ?_
 intro vw1 hkw hrw hnew hdis
 have sb := k_b hkw
 clear hkw hrw hnew hdis
 repeat ((fail_if_success with_reducible apply rg); go_step)
 apply wp_region_mixq [] [_, _] trivial List.nodup_nil rfl
 intro p
 refine m_m ?_
 simp only [pv]
 refine mx_val (.bool false) (exec_eql_k .u64 _ _ _ _ rfl m 0 rfl rfl false (decide_eq_false (by omega))) ?_
 simp only [pv]
 refine mx_end ?_
 intro vw2 hkw hrw hnew hdis
 replace sb := kk sb hkw
 clear hkw hrw hnew hdis
 repeat ((fail_if_success with_reducible apply rg); go_step)
 apply wp_region_mixq [] [_, _, _] trivial List.nodup_nil rfl
 intro p
 refine m_m ?_
 refine m_m ?_
 simp only [pv]
 refine mx_val (.bool false) (exec_leq_u _ _ _ _ rfl m a rfl rfl false (decide_eq_false (by omega))) ?_
 simp only [pv]
 refine mx_end ?_
 intro vw3 hkw hrw hnew hdis
 replace sb := kk sb hkw
 clear hkw hrw hnew hdis
 repeat ((fail_if_success with_reducible apply rg); go_step)
 apply wp_region_mixq [] [_, _] trivial List.nodup_nil rfl
 intro p
 refine m_m ?_
 simp only [pv]
 refine mx_val (.bool false) (exec_eql_k .u64 _ _ _ _ rfl a 0 rfl rfl false (decide_eq_false (by omega))) ?_
 simp only [pv]
 refine mx_end ?_
 intro vw4 hkw hrw hnew hdis
 replace sb := kk sb hkw
 clear hkw hrw hnew hdis
 repeat ((fail_if_success with_reducible apply rg); go_step)
 apply wp_region_mixq [] [_, _, _, _] trivial List.nodup_nil rfl
 intro p
 refine m_m ?_
 simp only [pv]
 refine mx_call 136 _ _ rfl Tryz.func136 (by kernel_rfl) #[.int .u64 m] rfl _ hlz ?_
 simp only [pv]
 refine mx_val (.int .u64 s) (exec_conv_iu _ rfl s rfl (by omega)) ?_
 refine m_a ?_
 simp only [pv]
 refine mx_end ?_
 intro vw5 hkw hrw hnew hdis
 replace sb := kk sb hkw
 clear hkw hrw hnew hdis
 repeat ((fail_if_success with_reducible apply rg); go_step)
 apply wp_region_mixq [] [_, _, _, _] trivial List.nodup_nil rfl
 intro p
 refine m_m ?_
 refine m_m ?_
 simp only [pv]
 refine mx_val (.int .u64 y) (exec_shl_r _ _ _ _ rfl m s y rfl rfl hs64 eY) ?_
 refine m_a ?_
 simp only [pv]
 refine mx_end ?_
 intro vw6 hkw hrw hnew hdis
 replace sb := kk sb hkw
 clear hkw hrw hnew hdis
 repeat ((fail_if_success with_reducible apply rg); go_step)
 apply wp_region_mixq [] [_, _, _] trivial List.nodup_nil rfl
 intro p
 refine m_m ?_
 simp only [pv]
 refine mx_val (.int .u64 v) (exec_shr_r _ _ _ _ rfl y 32 v rfl rfl (by decide) e9) ?_
 refine m_a ?_
 simp only [pv]
 refine mx_end ?_
 intro vw7 hkw hrw hnew hdis
 replace sb := kk sb hkw
 clear hkw hrw hnew hdis
 repeat ((fail_if_success with_reducible apply rg); go_step)
 apply wp_region_mixq [] [_, _, _] trivial List.nodup_nil rfl
 intro p
 refine m_m ?_
 simp only [pv]
 refine mx_val (.int .u64 v0) (exec_and_r _ _ _ _ rfl y 4294967295 v0 rfl rfl tv0) ?_
 refine m_a ?_
 simp only [pv]
 refine mx_end ?_
 intro vw8 hkw hrw hnew hdis
 replace sb := kk sb hkw
 clear hkw hrw hnew hdis
 repeat ((fail_if_success with_reducible apply rg); go_step)
 apply wp_region_mixq [] [_, _, _, _, _, _, _, _, _] trivial List.nodup_nil rfl
 intro p
 refine m_m ?_
 refine m_m ?_
 simp only [pv]
 refine mx_val (.int .u64 h1s) (exec_shl_r _ _ _ _ rfl a s h1s rfl rfl hs64 eh1) ?_
 refine m_m ?_
 refine m_m ?_
 simp only [pv]
 refine mx_val (.int .u64 (64 - s : Nat)) (exec_sub_r _ _ _ _ rfl 64 s (64 - s) rfl rfl (by omega) (by decide) rfl) ?_
 simp only [pv]
 refine mx_val (.int .u64 l1s) (exec_shr_r _ _ _ _ rfl b (64 - s) l1s rfl rfl (by omega) el1) ?_
 simp only [pv]
 refine mx_val (.int .u64 h) (exec_or_r _ _ _ _ rfl h1s l1s h rfl rfl eH) ?_
 refine m_a ?_
 simp only [pv]
 refine mx_end ?_
 intro vw9 hkw hrw hnew hdis
 replace sb := kk sb hkw
 clear hkw hrw hnew hdis
 repeat ((fail_if_success with_reducible apply rg); go_step)
 apply wp_region_mixq [] [_, _, _, _] trivial List.nodup_nil rfl
 intro p
 refine m_m ?_
 refine m_m ?_
 simp only [pv]
 refine mx_val (.int .u64 l) (exec_shl_r _ _ _ _ rfl b s l rfl rfl hs64 eL) ?_
 refine m_a ?_
 simp only [pv]
 refine mx_end ?_
 intro vw10 hkw hrw hnew hdis
 replace sb := kk sb hkw
 clear hkw hrw hnew hdis
 repeat ((fail_if_success with_reducible apply rg); go_step)
 apply wp_region_mixq [] [_, _, _] trivial List.nodup_nil rfl
 intro p
 refine m_m ?_
 simp only [pv]
 refine mx_val (.int .u64 x1) (exec_shr_r _ _ _ _ rfl l 32 x1 rfl rfl (by decide) e13) ?_
 refine m_a ?_
 simp only [pv]
 refine mx_end ?_
 intro vw11 hkw hrw hnew hdis
 replace sb := kk sb hkw
 clear hkw hrw hnew hdis
 repeat ((fail_if_success with_reducible apply rg); go_step)
 apply wp_region_mixq [] [_, _, _] trivial List.nodup_nil rfl
 intro p
 refine m_m ?_
 simp only [pv]
 refine mx_val (.int .u64 x0) (exec_and_r _ _ _ _ rfl l 4294967295 x0 rfl rfl tx0) ?_
 refine m_a ?_
 simp only [pv]
 refine mx_end ?_
 intro vw12 hkw hrw hnew hdis
 replace sb := kk sb hkw
 clear hkw hrw hnew hdis
 repeat ((fail_if_success with_reducible apply rg); go_step)
 apply wp_region_mixq [] [_, _, _, _] trivial List.nodup_nil rfl
 intro p
 refine m_m ?_
 refine m_m ?_
 simp only [pv]
 refine mx_val (.int .u64 Q) (exec_quo_r _ _ _ _ rfl h v Q rfl rfl (by omega) (by omega) e15) ?_
 refine m_a ?_
 simp only [pv]
 refine mx_end ?_
 intro vw13 hkw hrw hnew hdis
 replace sb := kk sb hkw
 clear hkw hrw hnew hdis
 repeat ((fail_if_success with_reducible apply rg); go_step)
 apply wp_region_mixq [] [_, _, _, _, _, _] trivial List.nodup_nil rfl
 intro p
 refine m_m ?_
 refine m_m ?_
 refine m_m ?_
 simp only [pv]
 refine mx_val (.int .u64 P) (exec_mul_r _ _ _ _ rfl Q v P rfl rfl hPq (by omega)) ?_
 simp only [pv]
 refine mx_val (.int .u64 (h - P : Nat)) (exec_sub_r _ _ _ _ rfl h P (h - P) rfl rfl hPle (by omega) rfl) ?_
 refine m_a ?_
 simp only [pv]
 refine mx_end ?_
 intro vw14 hkw hrw hnew hdis
 replace sb := kk sb hkw
 clear hkw hrw hnew hdis
 -- the rows that stand: 
 clear hlz eY eh1 el1 eH eL ha ham hs0 hPq e9 e13 e15 ev ev0 ex1 ex0 eQ eP eU eQ2 eP2 ed ed0 eZ
 go_wp2_with fail
 go_loopg [15, 16] (Q - d) (fun g s15 s16 wr => ∃ q r : Nat, q = d + g ∧ s15 = .int .u64 q ∧ s16 = .int .u64 r ∧ Gu h x1 y q r ∧ r < 4294967296 ∧ vw14 = wr)
 case atStart =>
  exact ⟨Q, h - P, by omega, rfl, rfl, G0.out, hPr, rfl⟩
 case round =>
  obtain ⟨q, r, hq, rfl, rfl, hG, hr, rfl⟩ := hrel
  have hq33 := gu_lt h x1 y q r hG (by omega) hy
  have tq : (q : Int) * (v0 : Int) = ((q * v0 : Nat) : Int) := by simp
  have hsm : q < 4294967296 → q * v0 < 18446744073709551616 := fun h1 => by
   have : q * v0 ≤ 4294967295 * 4294967295 := Nat.mul_le_mul (by omega) (by omega)
   omega
  have hstop : q * v0 ≤ 4294967296 * r + x1 → q = d := fun h1 => by
   rw [E.out.2] at h1
   rw [← HD.out]
   exact gu_stop h x1 y q r hG (by omega) h1
  have hmore : 4294967296 * r + x1 < q * v0 → d < q := fun h1 => by
   rw [E.out.2] at h1
   rw [← HD.out]
   exact gu_more h x1 y q r hG (by omega) h1
  have hnext : d < q → Gu h x1 y (q - 1) (r + v) := fun h1 => by
   rw [← HD.out] at h1
   rw [E.out.1]
   exact gu_next h x1 y q r hG h1
  have hbrk : d < q → 4294967296 ≤ r + v → q - 1 = d := fun h1 h2 => by
   rw [← HD.out]
   exact gu_break h x1 y _ _ (hnext h1) (by omega) h2
  generalize q * v0 = pq at *
  cases gk with
  | zero =>
   obtain rfl : d = q := by omega
   have hc : ¬ 4294967296 * r + x1 < pq := fun h1 => by have := hmore h1; omega
   have hsm' := hsm (by omega)
   have hc' : (pq : Int) ≤ 4294967296 * r + x1 := by omega
   have hz : ¬ (4294967296 : Int) ≤ d := by omega
   clear hc
   clear hstop hmore hnext hbrk hsm hG hq
   go_wp2_with fail
   clear hc' hz hsm' tq hr hq33
   go_loopg [18, 16] (Q2 - d0) (fun g s18 s16 wr => ∃ q r : Nat, q = d0 + g ∧ s18 = .int .u64 q ∧ s16 = .int .u64 r ∧ Gu U x0 y q r ∧ r < 4294967296 ∧ vw14 = wr)
   case atStart =>
    refine ⟨Q2, U - P2, by omega, rfl, ?_, G2.out, hPr2, rfl⟩
    rw [show ((U - P2 : Nat) : Int) = (U : Int) - P2 by omega]
   case round =>
    obtain ⟨q, r, hq, rfl, rfl, hG, hr, rfl⟩ := hrel
    have hq33 := gu_lt U x0 y q r hG (by omega) hy
    have tq : (q : Int) * (v0 : Int) = ((q * v0 : Nat) : Int) := by simp
    have hsm : q < 4294967296 → q * v0 < 18446744073709551616 := fun h1 => by
     have : q * v0 ≤ 4294967295 * 4294967295 := Nat.mul_le_mul (by omega) (by omega)
     omega
    have hstop : q * v0 ≤ 4294967296 * r + x0 → q = d0 := fun h1 => by
     rw [E.out.2] at h1
     rw [← HD0.out]
     exact gu_stop U x0 y q r hG (by omega) h1
    have hmore : 4294967296 * r + x0 < q * v0 → d0 < q := fun h1 => by
     rw [E.out.2] at h1
     rw [← HD0.out]
     exact gu_more U x0 y q r hG (by omega) h1
    have hnext : d0 < q → Gu U x0 y (q - 1) (r + v) := fun h1 => by
     rw [← HD0.out] at h1
     rw [E.out.1]
     exact gu_next U x0 y q r hG h1
    have hbrk : d0 < q → 4294967296 ≤ r + v → q - 1 = d0 := fun h1 h2 => by
     rw [← HD0.out]
     exact gu_break U x0 y _ _ (hnext h1) (by omega) h2
    generalize q * v0 = pq at *
    cases gk with
    | zero =>
     obtain rfl : d0 = q := by omega
     have hc : ¬ 4294967296 * r + x0 < pq := fun h1 => by have := hmore h1; omega
     have hsm' := hsm (by omega)
     have hc' : (pq : Int) ≤ 4294967296 * r + x0 := by omega
     have hz : ¬ (4294967296 : Int) ≤ d0 := by omega
     clear hc
     clear hstop hmore hnext hbrk hsm hG hq
     go_wp2_with (first
      | refine wpList_value rfl (.int .u64 ((Z / 2 ^ s : Nat) : Int)) (exec_shr_r _ _ _ _ rfl Z s _ rfl rfl hs64 rfl _) ?_)
     go_ret2
     exact ⟨rfl, sb⟩
    | succ g =>
     have hlt : d0 < q := by omega
     have hN := hnext hlt
     have hB := hbrk hlt
     have hcond : 4294967296 ≤ q ∨ (q < 4294967296 ∧ 4294967296 * r + x0 < pq) := by
      rcases Nat.lt_or_ge q 4294967296 with h1 | h1
      ·refine .inr ⟨h1, ?_⟩
       rcases Nat.lt_or_ge (4294967296 * r + x0) pq with h2 | h2
       ·exact h2
       ·have := hstop h2; omega
      ·exact .inl h1
     clear hstop hmore hnext hbrk hG
     have HQ : Hid (q = d0 + (g + 1)) := hq
     clear hq
     rcases hcond with hbig | ⟨hbig, hc⟩
     ·clear hsm
      have hz : (4294967296 : Int) ≤ q := by omega
      clear hbig
      by_cases hov : 4294967296 ≤ r + v
      ·obtain rfl : g = 0 := by have := hB hov; have := HQ.out; omega
       have tqd : (q : Int) - 1 = (d0 : Int) := by have := HQ.out; omega
       have hw : (4294967296 : Int) ≤ r + v := by omega
       clear hB hN HQ hov
       go_wp2_with (first
        | refine wpList_value rfl (.int .u64 ((Z / 2 ^ s : Nat) : Int)) (exec_shr_r _ _ _ _ rfl Z s _ rfl rfl hs64 rfl _) ?_)
       go_ret2
       exact ⟨rfl, sb⟩
      ·have hw : ¬ (4294967296 : Int) ≤ r + v := by omega
       clear hB
       go_wp2
       go_roundg g
       case measure => omega
       case rel => exact ⟨q - 1, r + v, by have := HQ.out; omega, by go_num, by go_num, hN, by omega, rfl⟩
     ·have hsm' := hsm hbig
      have hz : ¬ (4294967296 : Int) ≤ q := by omega
      have hc' : 4294967296 * (r : Int) + x0 < pq := by omega
      clear hsm hbig hc
      by_cases hov : 4294967296 ≤ r + v
      ·obtain rfl : g = 0 := by have := hB hov; have := HQ.out; omega
       have tqd : (q : Int) - 1 = (d0 : Int) := by have := HQ.out; omega
       have hw : (4294967296 : Int) ≤ r + v := by omega
       clear hB hN HQ hov
       go_wp2_with (first
        | refine wpList_value rfl (.int .u64 ((Z / 2 ^ s : Nat) : Int)) (exec_shr_r _ _ _ _ rfl Z s _ rfl rfl hs64 rfl _) ?_)
       go_ret2
       exact ⟨rfl, sb⟩
      ·have hw : ¬ (4294967296 : Int) ≤ r + v := by omega
       clear hB
       go_wp2
       go_roundg g
       case measure => omega
       case rel => exact ⟨q - 1, r + v, by have := HQ.out; omega, by go_num, by go_num, hN, by omega, rfl⟩
  | succ g =>
   have hlt : d < q := by omega
   have hN := hnext hlt
   have hB := hbrk hlt
   have hcond : 4294967296 ≤ q ∨ (q < 4294967296 ∧ 4294967296 * r + x1 < pq) := by
    rcases Nat.lt_or_ge q 4294967296 with h1 | h1
    ·refine .inr ⟨h1, ?_⟩
     rcases Nat.lt_or_ge (4294967296 * r + x1) pq with h2 | h2
     ·exact h2
     ·have := hstop h2; omega
    ·exact .inl h1
   clear hstop hmore hnext hbrk hG
   have HQ : Hid (q = d + (g + 1)) := hq
   clear hq
   rcases hcond with hbig | ⟨hbig, hc⟩
   ·clear hsm
    have hz : (4294967296 : Int) ≤ q := by omega
    clear hbig
    by_cases hov : 4294967296 ≤ r + v
    ·obtain rfl : g = 0 := by have := hB hov; have := HQ.out; omega
     have tqd : (q : Int) - 1 = (d : Int) := by have := HQ.out; omega
     have hw : (4294967296 : Int) ≤ r + v := by omega
     clear hB hN HQ hov
     go_wp2_with fail
     clear hw hz tqd hr tq hq33
     go_loopg [18, 16] (Q2 - d0) (fun g s18 s16 wr => ∃ q r : Nat, q = d0 + g ∧ s18 = .int .u64 q ∧ s16 = .int .u64 r ∧ Gu U x0 y q r ∧ r < 4294967296 ∧ vw14 = wr)
     case atStart =>
      refine ⟨Q2, U - P2, by omega, rfl, ?_, G2.out, hPr2, rfl⟩
      rw [show ((U - P2 : Nat) : Int) = (U : Int) - P2 by omega]
     case round =>
      obtain ⟨q, r, hq, rfl, rfl, hG, hr, rfl⟩ := hrel
      have hq33 := gu_lt U x0 y q r hG (by omega) hy
      have tq : (q : Int) * (v0 : Int) = ((q * v0 : Nat) : Int) := by simp
      have hsm : q < 4294967296 → q * v0 < 18446744073709551616 := fun h1 => by
       have : q * v0 ≤ 4294967295 * 4294967295 := Nat.mul_le_mul (by omega) (by omega)
       omega
      have hstop : q * v0 ≤ 4294967296 * r + x0 → q = d0 := fun h1 => by
       rw [E.out.2] at h1
       rw [← HD0.out]
       exact gu_stop U x0 y q r hG (by omega) h1
      have hmore : 4294967296 * r + x0 < q * v0 → d0 < q := fun h1 => by
       rw [E.out.2] at h1
       rw [← HD0.out]
       exact gu_more U x0 y q r hG (by omega) h1
      have hnext : d0 < q → Gu U x0 y (q - 1) (r + v) := fun h1 => by
       rw [← HD0.out] at h1
       rw [E.out.1]
       exact gu_next U x0 y q r hG h1
      have hbrk : d0 < q → 4294967296 ≤ r + v → q - 1 = d0 := fun h1 h2 => by
       rw [← HD0.out]
       exact gu_break U x0 y _ _ (hnext h1) (by omega) h2
      generalize q * v0 = pq at *
      cases gk with
      | zero =>
       obtain rfl : d0 = q := by omega
       have hc : ¬ 4294967296 * r + x0 < pq := fun h1 => by have := hmore h1; omega
       have hsm' := hsm (by omega)
       have hc' : (pq : Int) ≤ 4294967296 * r + x0 := by omega
       have hz : ¬ (4294967296 : Int) ≤ d0 := by omega
       clear hc
       clear hstop hmore hnext hbrk hsm hG hq
       go_wp2_with (first
        | refine wpList_value rfl (.int .u64 ((Z / 2 ^ s : Nat) : Int)) (exec_shr_r _ _ _ _ rfl Z s _ rfl rfl hs64 rfl _) ?_)
       go_ret2
       exact ⟨rfl, sb⟩
      | succ g =>
       have hlt : d0 < q := by omega
       have hN := hnext hlt
       have hB := hbrk hlt
       have hcond : 4294967296 ≤ q ∨ (q < 4294967296 ∧ 4294967296 * r + x0 < pq) := by
        rcases Nat.lt_or_ge q 4294967296 with h1 | h1
        ·refine .inr ⟨h1, ?_⟩
         rcases Nat.lt_or_ge (4294967296 * r + x0) pq with h2 | h2
         ·exact h2
         ·have := hstop h2; omega
        ·exact .inl h1
       clear hstop hmore hnext hbrk hG
       have HQ : Hid (q = d0 + (g + 1)) := hq
       clear hq
       rcases hcond with hbig | ⟨hbig, hc⟩
       ·clear hsm
        have hz : (4294967296 : Int) ≤ q := by omega
        clear hbig
        by_cases hov : 4294967296 ≤ r + v
        ·obtain rfl : g = 0 := by have := hB hov; have := HQ.out; omega
         have tqd : (q : Int) - 1 = (d0 : Int) := by have := HQ.out; omega
         have hw : (4294967296 : Int) ≤ r + v := by omega
         clear hB hN HQ hov
         go_wp2_with (first
          | refine wpList_value rfl (.int .u64 ((Z / 2 ^ s : Nat) : Int)) (exec_shr_r _ _ _ _ rfl Z s _ rfl rfl hs64 rfl _) ?_)
         go_ret2
         exact ⟨rfl, sb⟩
        ·have hw : ¬ (4294967296 : Int) ≤ r + v := by omega
         clear hB
         go_wp2
         go_roundg g
         case measure => omega
         case rel => exact ⟨q - 1, r + v, by have := HQ.out; omega, by go_num, by go_num, hN, by omega, rfl⟩
       ·have hsm' := hsm hbig
        have hz : ¬ (4294967296 : Int) ≤ q := by omega
        have hc' : 4294967296 * (r : Int) + x0 < pq := by omega
        clear hsm hbig hc
        by_cases hov : 4294967296 ≤ r + v
        ·obtain rfl : g = 0 := by have := hB hov; have := HQ.out; omega
         have tqd : (q : Int) - 1 = (d0 : Int) := by have := HQ.out; omega
         have hw : (4294967296 : Int) ≤ r + v := by omega
         clear hB hN HQ hov
         go_wp2_with (first
          | refine wpList_value rfl (.int .u64 ((Z / 2 ^ s : Nat) : Int)) (exec_shr_r _ _ _ _ rfl Z s _ rfl rfl hs64 rfl _) ?_)
         go_ret2
         exact ⟨rfl, sb⟩
        ·have hw : ¬ (4294967296 : Int) ≤ r + v := by omega
         clear hB
         go_wp2
         go_roundg g
         case measure => omega
         case rel => exact ⟨q - 1, r + v, by have := HQ.out; omega, by go_num, by go_num, hN, by omega, rfl⟩
    ·have hw : ¬ (4294967296 : Int) ≤ r + v := by omega
     clear hB
     go_wp2
     go_roundg g
     case measure => omega
     case rel => exact ⟨q - 1, r + v, by have := HQ.out; omega, by go_num, by go_num, hN, by omega, rfl⟩
   ·have hsm' := hsm hbig
    have hz : ¬ (4294967296 : Int) ≤ q := by omega
    have hc' : 4294967296 * (r : Int) + x1 < pq := by omega
    clear hsm hbig hc
    by_cases hov : 4294967296 ≤ r + v
    ·obtain rfl : g = 0 := by have := hB hov; have := HQ.out; omega
     have tqd : (q : Int) - 1 = (d : Int) := by have := HQ.out; omega
     have hw : (4294967296 : Int) ≤ r + v := by omega
     clear hB hN HQ hov
     go_wp2_with fail
     clear hw hz tqd hr tq hq33 hc' hsm'
     go_loopg [18, 16] (Q2 - d0) (fun g s18 s16 wr => ∃ q r : Nat, q = d0 + g ∧ s18 = .int .u64 q ∧ s16 = .int .u64 r ∧ Gu U x0 y q r ∧ r < 4294967296 ∧ vw14 = wr)
     case atStart =>
      refine ⟨Q2, U - P2, by omega, rfl, ?_, G2.out, hPr2, rfl⟩
      rw [show ((U - P2 : Nat) : Int) = (U : Int) - P2 by omega]
     case round =>
      obtain ⟨q, r, hq, rfl, rfl, hG, hr, rfl⟩ := hrel
      have hq33 := gu_lt U x0 y q r hG (by omega) hy
      have tq : (q : Int) * (v0 : Int) = ((q * v0 : Nat) : Int) := by simp
      have hsm : q < 4294967296 → q * v0 < 18446744073709551616 := fun h1 => by
       have : q * v0 ≤ 4294967295 * 4294967295 := Nat.mul_le_mul (by omega) (by omega)
       omega
      have hstop : q * v0 ≤ 4294967296 * r + x0 → q = d0 := fun h1 => by
       rw [E.out.2] at h1
       rw [← HD0.out]
       exact gu_stop U x0 y q r hG (by omega) h1
      have hmore : 4294967296 * r + x0 < q * v0 → d0 < q := fun h1 => by
       rw [E.out.2] at h1
       rw [← HD0.out]
       exact gu_more U x0 y q r hG (by omega) h1
      have hnext : d0 < q → Gu U x0 y (q - 1) (r + v) := fun h1 => by
       rw [← HD0.out] at h1
       rw [E.out.1]
       exact gu_next U x0 y q r hG h1
      have hbrk : d0 < q → 4294967296 ≤ r + v → q - 1 = d0 := fun h1 h2 => by
       rw [← HD0.out]
       exact gu_break U x0 y _ _ (hnext h1) (by omega) h2
      generalize q * v0 = pq at *
      cases gk with
      | zero =>
       obtain rfl : d0 = q := by omega
       have hc : ¬ 4294967296 * r + x0 < pq := fun h1 => by have := hmore h1; omega
       have hsm' := hsm (by omega)
       have hc' : (pq : Int) ≤ 4294967296 * r + x0 := by omega
       have hz : ¬ (4294967296 : Int) ≤ d0 := by omega
       clear hc
       clear hstop hmore hnext hbrk hsm hG hq
       go_wp2_with (first
        | refine wpList_value rfl (.int .u64 ((Z / 2 ^ s : Nat) : Int)) (exec_shr_r _ _ _ _ rfl Z s _ rfl rfl hs64 rfl _) ?_)
       go_ret2
       exact ⟨rfl, sb⟩
      | succ g =>
       have hlt : d0 < q := by omega
       have hN := hnext hlt
       have hB := hbrk hlt
       have hcond : 4294967296 ≤ q ∨ (q < 4294967296 ∧ 4294967296 * r + x0 < pq) := by
        rcases Nat.lt_or_ge q 4294967296 with h1 | h1
        ·refine .inr ⟨h1, ?_⟩
         rcases Nat.lt_or_ge (4294967296 * r + x0) pq with h2 | h2
         ·exact h2
         ·have := hstop h2; omega
        ·exact .inl h1
       clear hstop hmore hnext hbrk hG
       have HQ : Hid (q = d0 + (g + 1)) := hq
       clear hq
       rcases hcond with hbig | ⟨hbig, hc⟩
       ·clear hsm
        have hz : (4294967296 : Int) ≤ q := by omega
        clear hbig
        by_cases hov : 4294967296 ≤ r + v
        ·obtain rfl : g = 0 := by have := hB hov; have := HQ.out; omega
         have tqd : (q : Int) - 1 = (d0 : Int) := by have := HQ.out; omega
         have hw : (4294967296 : Int) ≤ r + v := by omega
         clear hB hN HQ hov
         go_wp2_with (first
          | refine wpList_value rfl (.int .u64 ((Z / 2 ^ s : Nat) : Int)) (exec_shr_r _ _ _ _ rfl Z s _ rfl rfl hs64 rfl _) ?_)
         go_ret2
         exact ⟨rfl, sb⟩
        ·have hw : ¬ (4294967296 : Int) ≤ r + v := by omega
         clear hB
         go_wp2
         go_roundg g
         case measure => omega
         case rel => exact ⟨q - 1, r + v, by have := HQ.out; omega, by go_num, by go_num, hN, by omega, rfl⟩
       ·have hsm' := hsm hbig
        have hz : ¬ (4294967296 : Int) ≤ q := by omega
        have hc' : 4294967296 * (r : Int) + x0 < pq := by omega
        clear hsm hbig hc
        by_cases hov : 4294967296 ≤ r + v
        ·obtain rfl : g = 0 := by have := hB hov; have := HQ.out; omega
         have tqd : (q : Int) - 1 = (d0 : Int) := by have := HQ.out; omega
         have hw : (4294967296 : Int) ≤ r + v := by omega
         clear hB hN HQ hov
         go_wp2_with (first
          | refine wpList_value rfl (.int .u64 ((Z / 2 ^ s : Nat) : Int)) (exec_shr_r _ _ _ _ rfl Z s _ rfl rfl hs64 rfl _) ?_)
         go_ret2
         exact ⟨rfl, sb⟩
        ·have hw : ¬ (4294967296 : Int) ≤ r + v := by omega
         clear hB
         go_wp2
         go_roundg g
         case measure => omega
         case rel => exact ⟨q - 1, r + v, by have := HQ.out; omega, by go_num, by go_num, hN, by omega, rfl⟩
    ·have hw : ¬ (4294967296 : Int) ≤ r + v := by omega
     clear hB
     go_wp2
     go_roundg g
     case measure => omega
     case rel => exact ⟨q - 1, r + v, by have := HQ.out; omega, by go_num, by go_num, hN, by omega, rfl⟩
theorem or_shift (a b s c : Nat) (hc : c = 2 ^ s) (hb : b < 18446744073709551616) (hl : b / 2 ^ (64 - s) < c) (ha : a * c < 18446744073709551616) : bits .or .u64 ((a * c : Nat) : Int) ((b / 2 ^ (64 - s) : Nat) : Int) = ((a * c + b / 2 ^ (64 - s) : Nat) : Int) := by
 rw [u64_or_nat _ _ ha (Nat.lt_of_le_of_lt (Nat.div_le_self _ _) hb)]
 subst hc
 rw [show a * 2 ^ s = 2 ^ s * a by rw [Nat.mul_comm], Nat.two_pow_add_eq_or_of_lt hl]
theorem left_core (X z B Y : Nat) : (X % Y * B + z) % Y = (X * B + z) % Y := by rw [Nat.add_mod, Nat.mod_mul_mod, ← Nat.add_mod]
theorem d32_left (H L Y : Nat) : (H * 4294967296 + L / 4294967296 - d32 H (L / 4294967296) Y * Y) * 4294967296 + L % 4294967296 - d32 (H * 4294967296 + L / 4294967296 - d32 H (L / 4294967296) Y * Y) (L % 4294967296) Y * Y = (H * 18446744073709551616 + L) % Y := by
 have e : H * 18446744073709551616 + L = (H * 4294967296 + L / 4294967296) * 4294967296 + L % 4294967296 := by omega
 rw [e]
 unfold d32
 rw [← Nat.mod_eq_sub_div_mul, ← Nat.mod_eq_sub_div_mul]
 exact left_core _ _ _ _
theorem div64s_math (a b s : Nat) (hs : s < 64) : (a * 2 ^ s + b / 2 ^ (64 - s)) * 18446744073709551616 + b * 2 ^ s % 18446744073709551616 = (a * 18446744073709551616 + b) * 2 ^ s := by
 have e : (18446744073709551616 : Nat) = 2 ^ (64 - s) * 2 ^ s := by rw [← Nat.pow_add, show 64 - s + s = 64 by omega]
 have h1 := Nat.div_add_mod (b * 2 ^ s) 18446744073709551616
 have h2 : b * 2 ^ s / 18446744073709551616 = b / 2 ^ (64 - s) := by
  rw [e]
  exact Nat.mul_div_mul_right b (2 ^ (64 - s)) (Nat.two_pow_pos s)
 rw [h2] at h1
 generalize b / 2 ^ (64 - s) = q at *
 rw [Nat.add_mul, Nat.add_mul, Nat.mul_assoc, Nat.mul_comm (2 ^ s) 18446744073709551616, ← Nat.mul_assoc, Nat.add_assoc, Nat.mul_comm q, h1]
theorem div64s_any (a b m : Nat) (w : World) (ham : a < m) (hm : m < 9223372036854775808) (hb : b < 18446744073709551616) :
  Calls Tryz.prog 109 #[.int .u64 a, .int .u64 b, .int .u64 m] w fun e w' => (∃ q : Int, e = .returned (.tuple #[.int .u64 q, .int .u64 ((a * 18446744073709551616 + b) % m : Nat)])) ∧ Below w.heap.size w w' := by
 rcases Nat.eq_zero_or_pos a with rfl | ha
 ·refine (div64s_zero b m w ham).mono ?_
  rintro e w' ⟨rfl, hw⟩
  exact ⟨⟨IntKind.u64.wrap ((b : Int).tdiv m), by rw [Nat.zero_mul, Nat.zero_add, show ((b : Int).tmod (m : Int)) = ((b % m : Nat) : Int) by rw [Int.tmod_eq_emod_of_nonneg (Int.natCast_nonneg b)]; simp]⟩, hw⟩
 have hbl := bitLen_to m 63 hm
 have hbp : 0 < bitLen m := by
  rcases Nat.eq_zero_or_pos (bitLen m) with h | h
  ·have := lt_bitLen m 0 (by omega); omega
  ·exact h
 have hup := lt_bitLen m (bitLen m) (Nat.le_refl _)
 have hlo : 2 ^ (bitLen m - 1) ≤ m := by
  apply Nat.le_of_not_lt
  intro h
  have := bitLen_to m _ h
  omega
 have hlz := fun w' => lzs_any m w' (by omega)
 obtain ⟨s, hs⟩ : ∃ s, s = 64 - bitLen m := ⟨_, rfl⟩
 rw [← hs] at hlz
 have hs0 : 0 < s := by omega
 have hs64 : s < 64 := by omega
 have e64 : (18446744073709551616 : Nat) = 2 ^ bitLen m * 2 ^ s := by rw [← Nat.pow_add, show bitLen m + s = 64 by omega]
 have e63 : (9223372036854775808 : Nat) = 2 ^ (bitLen m - 1) * 2 ^ s := by rw [← Nat.pow_add, show bitLen m - 1 + s = 63 by omega]
 have p0 := Nat.two_pow_pos s
 have hY2 : m * 2 ^ s < 18446744073709551616 := by rw [e64]; exact (Nat.mul_lt_mul_right p0).2 hup
 have hY : 9223372036854775808 ≤ m * 2 ^ s := by rw [e63]; exact Nat.mul_le_mul_right _ hlo
 have hA2 : a * 2 ^ s < m * 2 ^ s := (Nat.mul_lt_mul_right p0).2 ham
 have hbq : b / 2 ^ (64 - s) < 2 ^ s := by
  rw [Nat.div_lt_iff_lt_mul (Nat.two_pow_pos _), ← Nat.pow_add, show s + (64 - s) = 64 by omega]
  exact hb
 have hH : a * 2 ^ s + b / 2 ^ (64 - s) < m * 2 ^ s := by
  have : (a + 1) * 2 ^ s ≤ m * 2 ^ s := Nat.mul_le_mul_right _ ham
  rw [Nat.add_mul, Nat.one_mul] at this
  omega
 have hL : b * 2 ^ s % 18446744073709551616 < 18446744073709551616 := Nat.mod_lt _ (by decide)
 have h := div64s_more a b m s (a * 2 ^ s + b / 2 ^ (64 - s)) (b * 2 ^ s % 18446744073709551616) (m * 2 ^ s) (a * 2 ^ s) (b / 2 ^ (64 - s)) _ _ _ _ _ _ _ _ _ _ _ _ w ha ham hs0 hs64 hlz (Nat.mod_eq_of_lt hY2) (Nat.mod_eq_of_lt (by omega)) rfl
  (or_shift a b s _ rfl hb hbq (by omega)) rfl hH hL hY hY2 rfl rfl rfl rfl rfl rfl rfl rfl rfl rfl rfl rfl
 have hmath := div64s_math a b s hs64
 generalize a * 2 ^ s + b / 2 ^ (64 - s) = H at *
 generalize b * 2 ^ s % 18446744073709551616 = L at *
 have key := d32_left H L (m * 2 ^ s)
 rw [hmath, Nat.mul_mod_mul_right] at key
 rw [key, Nat.mul_div_cancel _ p0] at h
 exact h.mono fun e w' ⟨he, hw⟩ => ⟨⟨_, he⟩, hw⟩
end Go.Proofs.YtgdalihjpemjiaaGreat
