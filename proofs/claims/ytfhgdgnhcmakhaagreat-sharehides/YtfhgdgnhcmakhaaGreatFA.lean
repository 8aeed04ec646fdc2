import Derived.Test.YtfhgdgnhcmakhaaGreatGI
import Derived.Test.YtfhgdgnhcmakhaaGreatGH
import Derived.Test.YtfhgdgnhcmakhaaGreatPM
import Derived.Test.YtfhgdgnhcmakhaaGreatWAdd
import Derived.Test.YtfhgdgnhcmakhaaGreatGW
import Derived.Test.YtfhgdgnhcmakhaaGreatMNobody
import Derived.Test.YtfhgdgnhcmakhaaGreatGT
import Derived.Test.YtfhgdgnhcmakhaaGreatWI
import Derived.Test.YtfhgdgnhcmakhaaGreatMPow
import Derived.Test.YtfhgdgnhcmakhaaGreatGO
import Derived.Test.YtfhgdgnhcmakhaaGreatGAwake
set_option maxRecDepth 100000
set_option maxHeartbeats 2000000
namespace Go.Proofs.YtfhgdgnhcmakhaaGreat
def sbN (A B q : Nat) : Nat := (A % q + (q - B % q)) % q
def dotN (a b : Nat → Nat) (q : Nat) : Nat → Nat
 | 0 => 0
 | k + 1 => (dotN a b q k + a k * b k % q) % q
theorem subZ_sb (A B q : Nat) (h : 0 < q) : subZ A B q = sbN A B q := if_neg (by omega)
theorem sb_of (x y q : Nat) (hx : x < q) (hy : y < q) : (x + q - y) % q = sbN x y q := by
 unfold sbN
 rw [Nat.mod_eq_of_lt hx, Nat.mod_eq_of_lt hy, Nat.add_sub_assoc (by omega)]
theorem inv_0 {A q : Nat} (hq : IsP q) (h : A % q = 0) : invZ A q = 0 := by
 unfold invZ
 rw [if_neg (by have := hq.1; omega), if_neg]
 intro hg
 have hd : q ∣ Nat.gcd A q := Nat.dvd_gcd (Nat.dvd_of_mod_eq_zero h) (Nat.dvd_refl q)
 rw [hg] at hd
 have := Nat.le_of_dvd (by decide) hd
 have := hq.1
 omega
theorem inv_gcd {A q : Nat} (hq : IsP q) (h : A % q ≠ 0) : Nat.gcd A q = 1 := by
 rw [Nat.gcd_comm]
 exact isP_coprime hq fun hd => h (Nat.mod_eq_zero_of_dvd hd)
theorem inv_1 {A q : Nat} (hq : IsP q) (h : A % q ≠ 0) : A * invZ A q % q = 1 := by
 rw [Nat.mul_comm]
 exact (inv_is A q hq.1 (inv_gcd hq h)).2
theorem inv_lt (A q : Nat) (hq : IsP q) : invZ A q < q := by
 by_cases h : A % q = 0
 ·rw [inv_0 hq h]
  have := hq.1
  omega
 ·exact (inv_is A q hq.1 (inv_gcd hq h)).1
def ivN (x q : Nat) : Nat := if x = 0 then 0 else x ^ (q - 2) % q
theorem iv_is {A q : Nat} (hq : IsP q) : invZ A q = ivN (A % q) q := by
 unfold ivN
 by_cases h : A % q = 0
 ·rw [if_pos h, inv_0 hq h]
 ·have h2 := hq.1
  rw [if_neg h]
  have e : invZ A q = invV A q := by
   unfold invZ
   rw [if_neg (by omega), if_pos (inv_gcd hq h)]
  rw [e]
  refine inv_unique A q _ (Nat.mod_lt _ (by omega)) ?_
  have hd : ¬ q ∣ A := fun hd => h (Nat.mod_eq_zero_of_dvd hd)
  rw [← Nat.pow_mod, Nat.mod_mul_mod, ← Nat.pow_succ, show (q - 2).succ = q - 1 by omega]
  exact fermat hq hd
open Go.RowKit
theorem fAdd_core (v : Option Addr) (A B QQ S : Nat) (z : Int) (w : World) (hq : ∀ w', Below w.heap.size w w' → Calls Tryz.prog 83 #[.pointer v] w' fun e w2 => e = .returned (.agg (natC QQ)) ∧ Below w'.heap.size w' w2)
  (had : ∀ w', Calls Tryz.prog 108 #[.agg (natC A), .agg (natC B), .agg (natC QQ)] w' fun e w2 => e = .returned (.tuple #[.agg (natC S), .int .i64 z]) ∧ Below w'.heap.size w' w2) :
  Calls Tryz.prog 78 #[.pointer v, .agg (natC A), .agg (natC B)] w fun e w' => e = .returned (.agg (natC S)) ∧ Below w.heap.size w w' := by
 go_enter Tryz.func78, Tryz.ntmps78
 iterate 2 go_step
 refine rp ?_
 refine pw_boxr (by rfl) 38 _ rfl (_) rfl ?_
 intro g4 z0 n0 r4 k
 simp only [pv]
 have b4 : w.heap.size ≤ g4 := n0
 clear n0
 have sb := k.below w.heap.size (Nat.le_refl _) (by simp)
 clear k
 refine pw_boxr (by rfl) 38 _ rfl (_) rfl ?_
 intro g5 z1 n0 r5 k
 simp only [pv]
 have d4x5 := Nat.lt_of_lt_of_le r4.lt n0
 have b5 := Nat.le_trans sb.size n0
 clear n0
 replace r4 := k.ro r4
 replace sb := kk sb k
 clear k
 refine pw_new (by rfl) 38 rfl _ zero_nat ?_
 intro g6 z2 n0 r6 k
 simp only [pv]
 have d4x6 := Nat.lt_of_lt_of_le r4.lt n0
 have d5x6 := Nat.lt_of_lt_of_le r5.lt n0
 have b6 := Nat.le_trans sb.size n0
 clear n0
 replace r4 := k.ro r4
 replace r5 := k.ro r5
 replace sb := kk sb k
 clear k
 refine pw_nil ?_
 iterate 3 go_step
 apply wp_region_mix (by kernel_rfl) [] [_, _, _, _, _, _, _, _, _, _, _] trivial List.nodup_nil
 ·intro p
  refine mx_load 38 _ rfl _ rfl r4 (by simp <;> omega) 4 _ Tryz.underlying38 size_nat ?_
  simp only [pv]
  refine mx_load 38 _ rfl _ rfl r5 (by simp <;> omega) 4 _ Tryz.underlying38 size_nat ?_
  refine mx_move rfl rfl ?_
  simp only [pv]
  refine mx_callK 83 _ _ rfl Tryz.func83 (by kernel_rfl) #[.pointer v] rfl _ (fun w' hk => hq w' (sb.trans (hk.below w.heap.size sb.size (by simp <;> omega)))) ?_
  simp only [pv]
  refine mx_call 108 _ _ rfl Tryz.func108 (by kernel_rfl) #[.agg (natC A), .agg (natC B), .agg (natC QQ)] rfl _ had ?_
  refine mx_move rfl rfl ?_
  refine mx_ext rfl rfl rfl ?_
  refine mx_ext rfl rfl rfl ?_
  simp only [pv]
  refine mx_new 38 rfl _ zero_nat ?_
  simp only [pv]
  refine mx_put 17 38 _ _ rfl rfl rfl (natC S) rfl (by exact size_nat) (by simp only [natC_size]) (natC_one _) ?_
  simp only [Act.put]
  refine mx_asg rfl rfl ?_
  simp only [pv]
  refine mx_end ?_
  intro w2 hkw hrw hnew hdis
  have n7 := hnew 8 rfl
  have zr7 : Row w2 (p 8) (natC S) 38 := hrw 17 (38, natC S) rfl
  have d6x7 := Nat.lt_of_lt_of_le r6.lt n7
  replace r6 := hkw.ro r6
  have b7 := Nat.le_trans sb.size n7
  replace sb := kk sb hkw
  clear hkw hrw hnew hdis n7
  generalize p 8 = g7 at *
  have r7 := zr7
  clear zr7
  iterate 3 go_step
  refine rp ?_
  refine pw_loadm (by rfl) 38 _ rfl _ 0 rfl r7.r _ (part_all _) _ Tryz.underlying38 rfl size_nat ?_
  simp only [pv]
  refine pw_put (by rfl) 38 _ _ rfl _ rfl r6 (natC S) rfl (by exact size_nat) (by simp only [natC_size]) (natC_one _) ?_
  clear r6
  intro z2001 r6 k
  simp only [Act.put]
  replace r7 := k.ro r7
  replace sb := kk sb k
  clear k
  refine pw_nil ?_
  go_wp2
  exact ret_row rfl _ rfl r6 4 _ Tryz.underlying38 (by exact size_nat) rfl ⟨rfl, sb⟩
 ·kernel_rfl
theorem fSub_core (v : Option Addr) (A B QQ S : Nat) (z : Int) (w : World) (hq : ∀ w', Below w.heap.size w w' → Calls Tryz.prog 83 #[.pointer v] w' fun e w2 => e = .returned (.agg (natC QQ)) ∧ Below w'.heap.size w' w2)
  (had : ∀ w', Calls Tryz.prog 82 #[.agg (natC A), .agg (natC B), .agg (natC QQ)] w' fun e w2 => e = .returned (.tuple #[.agg (natC S), .int .i64 z]) ∧ Below w'.heap.size w' w2) :
  Calls Tryz.prog 59 #[.pointer v, .agg (natC A), .agg (natC B)] w fun e w' => e = .returned (.agg (natC S)) ∧ Below w.heap.size w w' := by
 go_enter Tryz.func59, Tryz.ntmps59
 iterate 2 go_step
 refine rp ?_
 refine pw_boxr (by rfl) 38 _ rfl (_) rfl ?_
 intro g4 z0 n0 r4 k
 simp only [pv]
 have b4 : w.heap.size ≤ g4 := n0
 clear n0
 have sb := k.below w.heap.size (Nat.le_refl _) (by simp)
 clear k
 refine pw_boxr (by rfl) 38 _ rfl (_) rfl ?_
 intro g5 z1 n0 r5 k
 simp only [pv]
 have d4x5 := Nat.lt_of_lt_of_le r4.lt n0
 have b5 := Nat.le_trans sb.size n0
 clear n0
 replace r4 := k.ro r4
 replace sb := kk sb k
 clear k
 refine pw_new (by rfl) 38 rfl _ zero_nat ?_
 intro g6 z2 n0 r6 k
 simp only [pv]
 have d4x6 := Nat.lt_of_lt_of_le r4.lt n0
 have d5x6 := Nat.lt_of_lt_of_le r5.lt n0
 have b6 := Nat.le_trans sb.size n0
 clear n0
 replace r4 := k.ro r4
 replace r5 := k.ro r5
 replace sb := kk sb k
 clear k
 refine pw_nil ?_
 iterate 3 go_step
 apply wp_region_mix (by kernel_rfl) [] [_, _, _, _, _, _, _, _, _, _, _] trivial List.nodup_nil
 ·intro p
  refine mx_load 38 _ rfl _ rfl r4 (by simp <;> omega) 4 _ Tryz.underlying38 size_nat ?_
  simp only [pv]
  refine mx_load 38 _ rfl _ rfl r5 (by simp <;> omega) 4 _ Tryz.underlying38 size_nat ?_
  refine mx_move rfl rfl ?_
  simp only [pv]
  refine mx_callK 83 _ _ rfl Tryz.func83 (by kernel_rfl) #[.pointer v] rfl _ (fun w' hk => hq w' (sb.trans (hk.below w.heap.size sb.size (by simp <;> omega)))) ?_
  simp only [pv]
  refine mx_call 82 _ _ rfl Tryz.func82 (by kernel_rfl) #[.agg (natC A), .agg (natC B), .agg (natC QQ)] rfl _ had ?_
  refine mx_move rfl rfl ?_
  refine mx_ext rfl rfl rfl ?_
  refine mx_ext rfl rfl rfl ?_
  simp only [pv]
  refine mx_new 38 rfl _ zero_nat ?_
  simp only [pv]
  refine mx_put 17 38 _ _ rfl rfl rfl (natC S) rfl (by exact size_nat) (by simp only [natC_size]) (natC_one _) ?_
  simp only [Act.put]
  refine mx_asg rfl rfl ?_
  simp only [pv]
  refine mx_end ?_
  intro w2 hkw hrw hnew hdis
  have n7 := hnew 8 rfl
  have zr7 : Row w2 (p 8) (natC S) 38 := hrw 17 (38, natC S) rfl
  have d6x7 := Nat.lt_of_lt_of_le r6.lt n7
  replace r6 := hkw.ro r6
  have b7 := Nat.le_trans sb.size n7
  replace sb := kk sb hkw
  clear hkw hrw hnew hdis n7
  generalize p 8 = g7 at *
  have r7 := zr7
  clear zr7
  iterate 3 go_step
  refine rp ?_
  refine pw_loadm (by rfl) 38 _ rfl _ 0 rfl r7.r _ (part_all _) _ Tryz.underlying38 rfl size_nat ?_
  simp only [pv]
  refine pw_put (by rfl) 38 _ _ rfl _ rfl r6 (natC S) rfl (by exact size_nat) (by simp only [natC_size]) (natC_one _) ?_
  clear r6
  intro z2001 r6 k
  simp only [Act.put]
  replace r7 := k.ro r7
  replace sb := kk sb k
  clear k
  refine pw_nil ?_
  go_wp2
  exact ret_row rfl _ rfl r6 4 _ Tryz.underlying38 (by exact size_nat) rfl ⟨rfl, sb⟩
 ·kernel_rfl
theorem fInv_core (v : Option Addr) (A QQ S : Nat) (z : Int) (w : World) (hq : ∀ w', Below w.heap.size w w' → Calls Tryz.prog 83 #[.pointer v] w' fun e w2 => e = .returned (.agg (natC QQ)) ∧ Below w'.heap.size w' w2)
  (hiv : ∀ w', Calls Tryz.prog 90 #[.agg (natC A), .agg (natC QQ)] w' fun e w2 => e = .returned (.tuple #[.agg (natC S), .int .i64 z]) ∧ Below w'.heap.size w' w2) :
  Calls Tryz.prog 63 #[.pointer v, .agg (natC A)] w fun e w' => e = .returned (.agg (natC S)) ∧ Below w.heap.size w w' := by
 go_enter Tryz.func63, Tryz.ntmps63
 iterate 2 go_step
 refine rp ?_
 refine pw_boxr (by rfl) 38 _ rfl (_) rfl ?_
 intro g3 z0 n0 r3 k
 simp only [pv]
 have b3 : w.heap.size ≤ g3 := n0
 clear n0
 have sb := k.below w.heap.size (Nat.le_refl _) (by simp)
 clear k
 refine pw_new (by rfl) 38 rfl _ zero_nat ?_
 intro g4 z1 n0 r4 k
 simp only [pv]
 have d3x4 := Nat.lt_of_lt_of_le r3.lt n0
 have b4 := Nat.le_trans sb.size n0
 clear n0
 replace r3 := k.ro r3
 replace sb := kk sb k
 clear k
 refine pw_nil ?_
 iterate 3 go_step
 apply wp_region_mix (by kernel_rfl) [] [_, _, _, _, _, _, _, _, _, _] trivial List.nodup_nil
 ·intro p
  refine mx_load 38 _ rfl _ rfl r3 (by simp <;> omega) 4 _ Tryz.underlying38 size_nat ?_
  refine mx_move rfl rfl ?_
  simp only [pv]
  refine mx_callK 83 _ _ rfl Tryz.func83 (by kernel_rfl) #[.pointer v] rfl _ (fun w' hk => hq w' (sb.trans (hk.below w.heap.size sb.size (by simp <;> omega)))) ?_
  simp only [pv]
  refine mx_call 90 _ _ rfl Tryz.func90 (by kernel_rfl) #[.agg (natC A), .agg (natC QQ)] rfl _ hiv ?_
  refine mx_move rfl rfl ?_
  refine mx_ext rfl rfl rfl ?_
  refine mx_ext rfl rfl rfl ?_
  simp only [pv]
  refine mx_new 38 rfl _ zero_nat ?_
  simp only [pv]
  refine mx_put 15 38 _ _ rfl rfl rfl (natC S) rfl (by exact size_nat) (by simp only [natC_size]) (natC_one _) ?_
  simp only [Act.put]
  refine mx_asg rfl rfl ?_
  simp only [pv]
  refine mx_end ?_
  intro w2 hkw hrw hnew hdis
  have n5 := hnew 7 rfl
  have zr5 : Row w2 (p 7) (natC S) 38 := hrw 15 (38, natC S) rfl
  have d4x5 := Nat.lt_of_lt_of_le r4.lt n5
  replace r4 := hkw.ro r4
  have b5 := Nat.le_trans sb.size n5
  replace sb := kk sb hkw
  clear hkw hrw hnew hdis n5
  generalize p 7 = g5 at *
  have r5 := zr5
  clear zr5
  iterate 3 go_step
  refine rp ?_
  refine pw_loadm (by rfl) 38 _ rfl _ 0 rfl r5.r _ (part_all _) _ Tryz.underlying38 rfl size_nat ?_
  simp only [pv]
  refine pw_put (by rfl) 38 _ _ rfl _ rfl r4 (natC S) rfl (by exact size_nat) (by simp only [natC_size]) (natC_one _) ?_
  clear r4
  intro z2001 r4 k
  simp only [Act.put]
  replace r5 := k.ro r5
  replace sb := kk sb k
  clear k
  refine pw_nil ?_
  go_wp2
  exact ret_row rfl _ rfl r4 4 _ Tryz.underlying38 (by exact size_nat) rfl ⟨rfl, sb⟩
 ·kernel_rfl
theorem fMul_core (v f : Option Addr) (A B S : Nat) (w : World) (hq : ∀ w', Below w.heap.size w w' → Calls Tryz.prog 52 #[.pointer v] w' fun e w2 => e = .returned (.pointer f) ∧ Below w'.heap.size w' w2)
  (hmu : ∀ w', Below w.heap.size w w' → Calls Tryz.prog 89 #[.pointer f, .agg (natC A), .agg (natC B)] w' fun e w2 => e = .returned (.agg (natC S)) ∧ Below w'.heap.size w' w2) :
  Calls Tryz.prog 62 #[.pointer v, .agg (natC A), .agg (natC B)] w fun e w' => e = .returned (.agg (natC S)) ∧ Below w.heap.size w w' := by
 go_enter Tryz.func62, Tryz.ntmps62
 iterate 2 go_step
 refine rp ?_
 refine pw_boxr (by rfl) 38 _ rfl (_) rfl ?_
 intro g4 z0 n0 r4 k
 simp only [pv]
 have b4 : w.heap.size ≤ g4 := n0
 clear n0
 have sb := k.below w.heap.size (Nat.le_refl _) (by simp)
 clear k
 refine pw_boxr (by rfl) 38 _ rfl (_) rfl ?_
 intro g5 z1 n0 r5 k
 simp only [pv]
 have d4x5 := Nat.lt_of_lt_of_le r4.lt n0
 have b5 := Nat.le_trans sb.size n0
 clear n0
 replace r4 := k.ro r4
 replace sb := kk sb k
 clear k
 refine pw_new (by rfl) 38 rfl _ zero_nat ?_
 intro g6 z2 n0 r6 k
 simp only [pv]
 have d4x6 := Nat.lt_of_lt_of_le r4.lt n0
 have d5x6 := Nat.lt_of_lt_of_le r5.lt n0
 have b6 := Nat.le_trans sb.size n0
 clear n0
 replace r4 := k.ro r4
 replace r5 := k.ro r5
 replace sb := kk sb k
 clear k
 refine pw_nil ?_
 iterate 3 go_step
 apply wp_region_mix (by kernel_rfl) [(g6, 38, natC 0)] [_, _, _, _, _, _] ⟨r6, trivial⟩ (by simp <;> omega)
 ·intro p
  refine mx_move rfl rfl ?_
  simp only [pv]
  refine mx_callK 52 _ _ rfl Tryz.func52 (by kernel_rfl) #[.pointer v] rfl _ (fun w' hk => hq w' (sb.trans (hk.below w.heap.size sb.size (by simp <;> omega)))) ?_
  simp only [pv]
  refine mx_load 38 _ rfl _ rfl r4 (by simp <;> omega) 4 _ Tryz.underlying38 size_nat ?_
  simp only [pv]
  refine mx_load 38 _ rfl _ rfl r5 (by simp <;> omega) 4 _ Tryz.underlying38 size_nat ?_
  simp only [pv]
  refine mx_callK 89 _ _ rfl Tryz.func89 (by kernel_rfl) #[.pointer f, .agg (natC A), .agg (natC B)] rfl _ (fun w' hk => hmu w' (sb.trans (hk.below w.heap.size sb.size (by simp <;> omega)))) ?_
  simp only [pv]
  refine mx_put 0 38 _ _ rfl rfl rfl (natC S) rfl (by exact size_nat) (by simp only [natC_size]) (natC_one _) ?_
  simp only [Act.put]
  refine mx_end ?_
  intro w2 hkw hrw hnew hdis
  have zr6 : Row w2 (g6) (natC S) 38 := hrw 0 (38, natC S) rfl
  replace sb := kk sb hkw
  clear hkw hrw hnew hdis r6
  have r6 := zr6
  clear zr6
  go_wp2
  exact ret_row rfl _ rfl r6 4 _ Tryz.underlying38 (by exact size_nat) rfl ⟨rfl, sb⟩
 ·kernel_rfl
theorem ptr_ring8 : Tryz.prog.underlying 84 = some (.pointer (Tryz.prog.pointee 84)) := by kernel_rfl
structure FdQ (Q : Nat) : Prop extends RgQ Q where
 pr : IsP Q
theorem FdQ.pos {Q : Nat} (h : FdQ Q) : 0 < Q := Nat.lt_of_lt_of_le (by decide) h.two
theorem fAdd_ok (A B g gr gf P Q G : Nat) (w : World) (hA : A < 2 ^ 256) (hB : B < 2 ^ 256) (q : FdQ Q) (h : GrpAt w g gr gf P Q G) :
  Calls Tryz.prog 78 #[.pointer (some ⟨g, 0, none⟩), .agg (natC A), .agg (natC B)] w fun e w' => e = .returned (.agg (natC ((A + B) % Q))) ∧ Below w.heap.size w w' := by
 refine fAdd_core _ A B Q _ (errI Q) w (fun w' hb => grpQ_any _ _ _ _ _ _ w' (h.below hb).kn) fun w' => ?_
 have := wadd_any A B Q w' hA hB q.m
 rw [modZ_full _ _ (Nat.pos_iff_ne_zero.1 q.pos)] at this
 exact this
theorem fSub_ok (A B g gr gf P Q G : Nat) (w : World) (hA : A < 2 ^ 256) (hB : B < 2 ^ 256) (q : FdQ Q) (h : GrpAt w g gr gf P Q G) :
  Calls Tryz.prog 59 #[.pointer (some ⟨g, 0, none⟩), .agg (natC A), .agg (natC B)] w fun e w' => e = .returned (.agg (natC (sbN A B Q))) ∧ Below w.heap.size w w' := by
 refine fSub_core _ A B Q _ (errI Q) w (fun w' hb => grpQ_any _ _ _ _ _ _ w' (h.below hb).kn) fun w' => ?_
 have := wsub_any A B Q w' hA hB q.m
 rw [subZ_sb _ _ _ q.pos] at this
 exact this
theorem fMul_ok (A B g gr gf P Q G : Nat) (w : World) (hA : A < 2 ^ 256) (hB : B < 2 ^ 256) (q : FdQ Q) (h : GrpAt w g gr gf P Q G) :
  Calls Tryz.prog 62 #[.pointer (some ⟨g, 0, none⟩), .agg (natC A), .agg (natC B)] w fun e w' => e = .returned (.agg (natC (A * B % Q))) ∧ Below w.heap.size w w' :=
 fMul_core _ _ A B _ w (fun w' hb => grpField_any _ _ _ _ _ _ w' (h.below hb).kn) fun w' hb => mul_ok A B Q gf q.toRgQ w' hA hB (h.below hb).fld
theorem fInv_ok (A g gr gf P Q G : Nat) (w : World) (hA : A < 2 ^ 256) (q : FdQ Q) (h : GrpAt w g gr gf P Q G) :
  Calls Tryz.prog 63 #[.pointer (some ⟨g, 0, none⟩), .agg (natC A)] w fun e w' => e = .returned (.agg (natC (invZ A Q))) ∧ Below w.heap.size w w' :=
 fInv_core _ A Q _ _ w (fun w' hb => grpQ_any _ _ _ _ _ _ w' (h.below hb).kn) fun w' => winv_any A Q w' hA q.m
def NoG (w : World) (v : Option Addr) : Prop := KnAt w v 0 0 0 none none
theorem NoG.below {w w' : World} {v : Option Addr} (h : NoG w v) (hb : Below w.heap.size w w') : NoG w' v := KnAt.below h hb
theorem fAdd_no (v : Option Addr) (A B : Nat) (w : World) (hA : A < 2 ^ 256) (hB : B < 2 ^ 256) (h : NoG w v) :
  Calls Tryz.prog 78 #[.pointer v, .agg (natC A), .agg (natC B)] w fun e w' => e = .returned (.agg (natC 0)) ∧ Below w.heap.size w w' :=
 fAdd_core _ A B 0 0 _ w (fun w' hb => grpQ_any _ _ _ _ _ _ w' (h.below hb)) fun w' => wadd_any A B 0 w' hA hB (by decide)
theorem fMul_no (v : Option Addr) (A B : Nat) (w : World) (h : NoG w v) :
  Calls Tryz.prog 62 #[.pointer v, .agg (natC A), .agg (natC B)] w fun e w' => e = .returned (.agg (natC 0)) ∧ Below w.heap.size w w' :=
 fMul_core _ _ A B _ w (fun w' hb => grpField_any _ _ _ _ _ _ w' (h.below hb)) fun w' _ => mul_no none A B w' (.inl rfl)
theorem rby_core (A QN X : Nat) (q : Int) (w : World)
  (hin : ∀ w', Calls Tryz.prog 28 #[.int .i64 q] w' fun e w2 => e = .returned (.agg (natC QN)) ∧ Below w'.heap.size w' w2)
  (hrm : ∀ w', Calls Tryz.prog 29 #[.agg (natC A), .agg (natC 0), .agg (natC QN)] w' fun e w2 => e = .returned (.tuple #[.agg (natC X), .int .i64 0]) ∧ Below w'.heap.size w' w2)
  (hlo : ∀ w', Calls Tryz.prog 12 #[.agg (natC X)] w' fun e w2 => e = .returned (.tuple #[.int .i64 (X : Nat), .bool true]) ∧ Below w'.heap.size w' w2) :
  Calls Tryz.prog 11 #[.agg (natC A), .int .i64 q] w fun e w' => e = .returned (.int .i64 (X : Nat)) ∧ Below w.heap.size w w' := by
 go_enter Tryz.func11, Tryz.ntmps11
 repeat ((fail_if_success with_reducible apply rg); go_step)
 refine rp ?_
 refine pw_boxr (by rfl) 38 _ rfl (_) rfl ?_
 intro g2 z0 n0 r2 k
 simp only [pv]
 have b2 : w.heap.size ≤ g2 := n0
 clear n0
 have sb := k.below w.heap.size (Nat.le_refl _) (by simp)
 clear k
 refine pw_value (by rfl) (.int .i64 0) (fun _ => rfl) ?_
 simp only [pv]
 refine pw_nil ?_
 repeat ((fail_if_success with_reducible apply rg); go_step)
 apply wp_region_mix (by kernel_rfl) [] [_, _, _, _, _, _, _, _, _, _, _] trivial List.nodup_nil
 ·intro p
  refine mx_load 38 _ rfl _ rfl r2 (by simp <;> omega) 4 _ Tryz.underlying38 size_nat ?_
  simp only [pv]
  refine mx_val (.agg (natC 0)) (exec_build0 _ rfl _ built_nat) ?_
  refine mx_move rfl rfl ?_
  simp only [pv]
  refine mx_call 28 _ _ rfl Tryz.func28 (by kernel_rfl) #[.int .i64 q] rfl _ hin ?_
  simp only [pv]
  refine mx_call 29 _ _ rfl Tryz.func29 (by kernel_rfl) #[.agg (natC A), .agg (natC 0), .agg (natC QN)] rfl _ hrm ?_
  refine mx_move rfl rfl ?_
  refine mx_ext rfl rfl rfl ?_
  refine mx_ext rfl rfl rfl ?_
  simp only [pv]
  refine mx_new 38 rfl _ zero_nat ?_
  simp only [pv]
  refine mx_put 17 38 _ _ rfl rfl rfl (natC X) rfl (by exact size_nat) (by simp only [natC_size]) (natC_one _) ?_
  simp only [Act.put]
  refine mx_asg rfl rfl ?_
  simp only [pv]
  refine mx_end ?_
  intro w2 hkw hrw hnew hdis
  have n5 := hnew 8 rfl
  have zr5 : Row w2 (p 8) (natC X) 38 := hrw 17 (38, natC X) rfl
  have b5 := Nat.le_trans sb.size n5
  replace sb := kk sb hkw
  clear hkw hrw hnew hdis n5
  generalize p 8 = g5 at *
  have r5 := zr5
  clear zr5
  repeat ((fail_if_success with_reducible apply rg); go_step)
  refine rp ?_
  refine pw_loadm (by rfl) 38 _ rfl _ 0 rfl r5.r _ (part_all _) _ Tryz.underlying38 rfl size_nat ?_
  simp only [pv]
  refine pw_callB (by rfl) 12 _ _ rfl Tryz.func12 (by kernel_rfl) #[.agg (natC X)] rfl _ (hlo _) ?_
  intro z2001 k
  simp only [pv]
  replace r5 := k.ro r5
  replace sb := kk sb k
  clear k
  refine pw_mv (by rfl) rfl rfl ?_
  refine pw_ext (by rfl) rfl rfl rfl ?_
  refine pw_ext (by rfl) rfl rfl rfl ?_
  refine pw_as (by rfl) rfl rfl ?_
  refine pw_as (by rfl) rfl rfl ?_
  simp only [pv]
  refine pw_nil ?_
  repeat ((fail_if_success with_reducible apply rg); go_step)
  refine rp ?_
  refine pw_mv (by rfl) rfl rfl ?_
  refine pw_as (by rfl) rfl rfl ?_
  simp only [pv]
  refine pw_nil ?_
  go_wp2
  go_ret
  exact ⟨rfl, sb⟩
 ·kernel_rfl
theorem rby_any (A q : Nat) (w : World) (hA : A < 2 ^ 256) (h0 : 0 < q) (hq : q < 4611686018427387904) :
  Calls Tryz.prog 11 #[.agg (natC A), .int .i64 (q : Nat)] w fun e w' => e = .returned (.int .i64 (A % q : Nat)) ∧ Below w.heap.size w w' := by
 have hX := Nat.mod_lt A h0
 refine rby_core A q (A % q) q w (fun w' => ?_) (fun w' => ?_) fun w' => ?_
 ·have := rint_any (q : Int) w' (by omega)
  rw [Int.toNat_natCast] at this
  exact this
 ·have := rrem_any A 0 q w' hA (by decide) (by omega)
  rw [show modZ (0 * 2 ^ 256 + A) q = A % q by unfold modZ; rw [if_neg (by omega), Nat.zero_mul, Nat.zero_add], show errI q = 0 by unfold errI; rw [if_neg (by omega)]] at this
  exact this
 ·have := rlow_any (A % q) w' (by omega)
  rw [show lowI (A % q) = ((A % q : Nat) : Int) from if_pos (by omega), show lowB (A % q) = true from decide_eq_true (by omega)] at this
  exact this
theorem radd8_any (x y q : Nat) (w : World) (h0 : 0 < q) (hx : x < 4611686018427387904) (hy : y < 4611686018427387904) :
  Calls Tryz.prog 14 #[.int .i64 (x : Nat), .int .i64 (y : Nat), .int .i64 (q : Nat)] w fun e w' => e = .returned (.int .i64 ((x + y) % q : Nat)) ∧ Below w.heap.size w w' := by
 go_enter Tryz.func14, Tryz.ntmps14
 have sb := Below.refl w.heap.size w
 repeat ((fail_if_success with_reducible apply rg); go_step)
 refine rp ?_
 refine pw_value (by rfl) (.int .i64 0) (fun _ => rfl) ?_
 simp only [pv]
 refine pw_nil ?_
 repeat ((fail_if_success with_reducible apply rg); go_step)
 refine rp ?_
 refine pw_mv (by rfl) rfl rfl ?_
 refine pw_mv (by rfl) rfl rfl ?_
 simp only [pv]
 refine pw_value (by rfl) (.int .i64 ((x + y : Nat) : Int)) (exec_add_in _ _ _ _ rfl x y rfl rfl (by omega)) ?_
 refine pw_mv (by rfl) rfl rfl ?_
 simp only [pv]
 refine pw_value (by rfl) (.int .i64 (((x + y) % q : Nat) : Int)) (exec_rem_i _ _ _ _ rfl (x + y) q rfl rfl h0) ?_
 refine pw_as (by rfl) rfl rfl ?_
 simp only [pv]
 refine pw_nil ?_
 go_wp2
 go_ret
 exact ⟨rfl, sb⟩
theorem rsub8_any (x y q : Nat) (w : World) (h0 : 0 < q) (hx : x < q) (hy : y < q) (hq : q < 4611686018427387904) :
  Calls Tryz.prog 38 #[.int .i64 (x : Nat), .int .i64 (y : Nat), .int .i64 (q : Nat)] w fun e w' => e = .returned (.int .i64 (sbN x y q : Nat)) ∧ Below w.heap.size w w' := by
 have hs : (x + q - y) % q = sbN x y q := sb_of x y q hx hy
 generalize sbN x y q = S at *
 go_enter Tryz.func38, Tryz.ntmps38
 have sb := Below.refl w.heap.size w
 repeat ((fail_if_success with_reducible apply rg); go_step)
 refine rp ?_
 refine pw_value (by rfl) (.int .i64 0) (fun _ => rfl) ?_
 simp only [pv]
 refine pw_nil ?_
 repeat ((fail_if_success with_reducible apply rg); go_step)
 refine rp ?_
 refine pw_mv (by rfl) rfl rfl ?_
 refine pw_mv (by rfl) rfl rfl ?_
 simp only [pv]
 refine pw_value (by rfl) (.int .i64 ((x + q : Nat) : Int)) (exec_add_in _ _ _ _ rfl x q rfl rfl (by omega)) ?_
 refine pw_mv (by rfl) rfl rfl ?_
 simp only [pv]
 refine pw_value (by rfl) (.int .i64 ((x + q - y : Nat) : Int)) (exec_sub_in _ _ _ _ rfl (x + q) y rfl rfl (by omega) (by omega)) ?_
 refine pw_mv (by rfl) rfl rfl ?_
 simp only [pv]
 refine pw_value (by rfl) (.int .i64 (S : Nat)) (fun w' => (exec_rem_i _ _ _ _ rfl (x + q - y) q rfl rfl h0 w').trans (by rw [hs])) ?_
 refine pw_as (by rfl) rfl rfl ?_
 simp only [pv]
 refine pw_nil ?_
 go_wp2
 go_ret
 exact ⟨rfl, sb⟩
theorem rmul8_any (x y q : Nat) (w : World) (h0 : 0 < q) (hq : q < 4611686018427387904) :
  Calls Tryz.prog 15 #[.int .i64 (x : Nat), .int .i64 (y : Nat), .int .i64 (q : Nat)] w fun e w' => e = .returned (.int .i64 (x * y % q : Nat)) ∧ Below w.heap.size w w' := by
 have hti := fun w' => rtimes_any x y q w' h0 hq
 generalize x * y % q = T at *
 clear h0 hq
 go_enter Tryz.func15, Tryz.ntmps15
 have sb := Below.refl w.heap.size w
 repeat ((fail_if_success with_reducible apply rg); go_step)
 refine rp ?_
 refine pw_value (by rfl) (.int .i64 0) (fun _ => rfl) ?_
 simp only [pv]
 refine pw_nil ?_
 repeat ((fail_if_success with_reducible apply rg); go_step)
 refine rp ?_
 refine pw_mv (by rfl) rfl rfl ?_
 refine pw_mv (by rfl) rfl rfl ?_
 refine pw_mv (by rfl) rfl rfl ?_
 simp only [pv]
 refine pw_callB (by rfl) 36 _ _ rfl Tryz.func36 (by kernel_rfl) #[.int .i64 (x : Nat), .int .i64 (y : Nat), .int .i64 (q : Nat)] rfl _ (hti _) ?_
 intro z1003 k
 simp only [pv]
 replace sb := kk sb k
 clear k
 refine pw_as (by rfl) rfl rfl ?_
 simp only [pv]
 refine pw_nil ?_
 go_wp2
 go_ret
 exact ⟨rfl, sb⟩
theorem rinv8_zero (q : Nat) (w : World) :
  Calls Tryz.prog 37 #[.int .i64 ((0 : Nat) : Int), .int .i64 (q : Nat)] w fun e w' => e = .returned (.int .i64 ((0 : Nat) : Int)) ∧ Below w.heap.size w w' := by
 go_enter Tryz.func37, Tryz.ntmps37
 have sb := Below.refl w.heap.size w
 repeat ((fail_if_success with_reducible apply rg); go_step)
 refine rp ?_
 refine pw_value (by rfl) (.int .i64 0) (fun _ => rfl) ?_
 simp only [pv]
 refine pw_nil ?_
 repeat ((fail_if_success with_reducible apply rg); go_step)
 refine rp ?_
 refine pw_mv (by rfl) rfl rfl ?_
 simp only [pv]
 refine pw_value (by rfl) (.bool true) (exec_eql_k .i64 _ _ _ _ rfl ((0 : Nat) : Int) 0 rfl rfl true rfl) ?_
 simp only [pv]
 refine pw_nil ?_
 repeat ((fail_if_success with_reducible apply rg); go_step)
 refine rp ?_
 refine pw_value (by rfl) (.int .i64 0) (fun _ => rfl) ?_
 simp only [pv]
 refine pw_nil ?_
 go_wp2
 go_ret
 exact ⟨rfl, sb⟩
theorem rinv8_more (x q : Nat) (w : World) (hx : x ≠ 0) (h2 : 2 ≤ q) (hq : q < 4611686018427387904) :
  Calls Tryz.prog 37 #[.int .i64 (x : Nat), .int .i64 (q : Nat)] w fun e w' => e = .returned (.int .i64 (x ^ (q - 2) % q : Nat)) ∧ Below w.heap.size w w' := by
 have hin := fun w' => rint_any ((q - 2 : Nat) : Int) w' (by omega)
 rw [Int.toNat_natCast] at hin
 have hpo := fun w' => rpower_any x (q - 2) q w' (by omega) (by omega) hq
 generalize x ^ (q - 2) % q = T at *
 go_enter Tryz.func37, Tryz.ntmps37
 have sb := Below.refl w.heap.size w
 repeat ((fail_if_success with_reducible apply rg); go_step)
 refine rp ?_
 refine pw_value (by rfl) (.int .i64 0) (fun _ => rfl) ?_
 simp only [pv]
 refine pw_nil ?_
 repeat ((fail_if_success with_reducible apply rg); go_step)
 refine rp ?_
 refine pw_mv (by rfl) rfl rfl ?_
 simp only [pv]
 refine pw_value (by rfl) (.bool false) (exec_eql_k .i64 _ _ _ _ rfl (x : Nat) 0 rfl rfl false (decide_eq_false (by omega))) ?_
 simp only [pv]
 refine pw_nil ?_
 repeat ((fail_if_success with_reducible apply rg); go_step)
 refine rp ?_
 refine pw_mv (by rfl) rfl rfl ?_
 refine pw_mv (by rfl) rfl rfl ?_
 simp only [pv]
 refine pw_value (by rfl) (.int .i64 ((q - 2 : Nat) : Int)) (exec_sub_in _ _ _ _ rfl q 2 rfl rfl h2 (by omega)) ?_
 simp only [pv]
 refine pw_callB (by rfl) 28 _ _ rfl Tryz.func28 (by kernel_rfl) #[.int .i64 ((q - 2 : Nat) : Int)] rfl _ (hin _) ?_
 intro z3003 k
 simp only [pv]
 replace sb := kk sb k
 clear k
 refine pw_mv (by rfl) rfl rfl ?_
 simp only [pv]
 refine pw_callB (by rfl) 66 _ _ rfl Tryz.func66 (by kernel_rfl) #[.int .i64 (x : Nat), .agg (natC (q - 2)), .int .i64 (q : Nat)] rfl _ (hpo _) ?_
 intro z3005 k
 simp only [pv]
 replace sb := kk sb k
 clear k
 refine pw_as (by rfl) rfl rfl ?_
 simp only [pv]
 refine pw_nil ?_
 go_wp2
 go_ret
 exact ⟨rfl, sb⟩
theorem rinv8_any (x q : Nat) (w : World) (h2 : 2 ≤ q) (hq : q < 4611686018427387904) :
  Calls Tryz.prog 37 #[.int .i64 (x : Nat), .int .i64 (q : Nat)] w fun e w' => e = .returned (.int .i64 (ivN x q : Nat)) ∧ Below w.heap.size w w' := by
 unfold ivN
 by_cases h : x = 0
 ·subst h
  exact rinv8_zero q w
 ·rw [if_neg h]
  exact rinv8_more x q w h h2 hq
def pk2 {α : Type} (b : Bool) (x y : α) : α := if b = true then x else y
theorem rpick_1 (a0 z : Int) (w : World) (hz : bits .and .i64 a0 1 = z) (h : decide (z = 1) = true) :
  Calls Tryz.prog 23 #[.int .i64 a0] w fun e w' => ∃ g, e = .returned (.agg (paC (some ⟨g, 0, none⟩) 3 3 otG)) ∧ w.heap.size ≤ g ∧ Row w' g (lksC 3 (lN otL) twoA) 91 ∧ Below w.heap.size w w' := by
 go_enter Tryz.func23, Tryz.ntmps23
 iterate 2 go_step
 refine rp ?_
 refine pw_new (by rfl) 59 rfl _ zero_pa ?_
 intro g2 z0 n0 r2 k
 simp only [pv]
 have b2 : w.heap.size ≤ g2 := n0
 clear n0
 have sb := k.below w.heap.size (Nat.le_refl _) (by simp)
 clear k
 refine pw_nil ?_
 iterate 4 go_step
 refine rp ?_
 refine pw_mv (by rfl) rfl rfl ?_
 simp only [pv]
 refine pw_value (by rfl) (.int .i64 z) (fun w' => (exec_bits_i .and _ _ _ _ (.inl rfl) rfl a0 1 rfl rfl w').trans (by rw [hz])) ?_
 simp only [pv]
 refine pw_value (by rfl) (.bool true) (exec_eql_k .i64 _ _ _ _ rfl z 1 rfl rfl true h) ?_
 simp only [pv]
 refine pw_nil ?_
 iterate 4 go_step
 refine rp ?_
 refine pw_callE (by rfl) 45 _ _ rfl Tryz.func45 (by kernel_rfl) #[] rfl (rother_any _) ?_
 rintro _ z2000 ⟨gL, rfl, nL, rL, hb⟩
 refine ⟨_, rfl, ?_⟩
 simp only [pv]
 have d2xL := Nat.lt_of_lt_of_le r2.lt nL
 have bL := Nat.le_trans sb.size nL
 clear nL
 have k := Kept.ofBelow hb
 clear hb
 replace r2 := k.ro r2
 replace sb := kk sb k
 clear k
 refine pw_put (by rfl) 59 _ _ rfl _ rfl r2 (paC (some ⟨gL, 0, none⟩) 3 3 otG) rfl (by exact size_pa) (by rfl) (pa_one _ _ _ _) ?_
 clear r2
 intro z2001 r2 k
 simp only [Act.put]
 replace rL := k.ro rL
 replace sb := kk sb k
 clear k
 refine pw_nil ?_
 go_wp2
 exact ret_rowd rfl _ rfl r2 _ Tryz.underlying59 (by exact size_pa) rfl ⟨gL, rfl, bL, rL, sb⟩
theorem rpick_0 (a0 z : Int) (w : World) (hz : bits .and .i64 a0 1 = z) (h : decide (z = 1) = false) :
  Calls Tryz.prog 23 #[.int .i64 a0] w fun e w' => ∃ g, e = .returned (.agg (paC (some ⟨g, 0, none⟩) 3 3 leG)) ∧ w.heap.size ≤ g ∧ Row w' g (lksC 3 (lN leL) twoA) 91 ∧ Below w.heap.size w w' := by
 go_enter Tryz.func23, Tryz.ntmps23
 iterate 2 go_step
 refine rp ?_
 refine pw_new (by rfl) 59 rfl _ zero_pa ?_
 intro g2 z0 n0 r2 k
 simp only [pv]
 have b2 : w.heap.size ≤ g2 := n0
 clear n0
 have sb := k.below w.heap.size (Nat.le_refl _) (by simp)
 clear k
 refine pw_nil ?_
 iterate 4 go_step
 refine rp ?_
 refine pw_mv (by rfl) rfl rfl ?_
 simp only [pv]
 refine pw_value (by rfl) (.int .i64 z) (fun w' => (exec_bits_i .and _ _ _ _ (.inl rfl) rfl a0 1 rfl rfl w').trans (by rw [hz])) ?_
 simp only [pv]
 refine pw_value (by rfl) (.bool false) (exec_eql_k .i64 _ _ _ _ rfl z 1 rfl rfl false h) ?_
 simp only [pv]
 refine pw_nil ?_
 iterate 7 go_step
 refine rp ?_
 refine pw_callE (by rfl) 46 _ _ rfl Tryz.func46 (by kernel_rfl) #[] rfl (rleast_any _) ?_
 rintro _ z3000 ⟨gL, rfl, nL, rL, hb⟩
 refine ⟨_, rfl, ?_⟩
 simp only [pv]
 have d2xL := Nat.lt_of_lt_of_le r2.lt nL
 have bL := Nat.le_trans sb.size nL
 clear nL
 have k := Kept.ofBelow hb
 clear hb
 replace r2 := k.ro r2
 replace sb := kk sb k
 clear k
 refine pw_put (by rfl) 59 _ _ rfl _ rfl r2 (paC (some ⟨gL, 0, none⟩) 3 3 leG) rfl (by exact size_pa) (by rfl) (pa_one _ _ _ _) ?_
 clear r2
 intro z3001 r2 k
 simp only [Act.put]
 replace rL := k.ro rL
 replace sb := kk sb k
 clear k
 refine pw_nil ?_
 go_wp2
 exact ret_rowd rfl _ rfl r2 _ Tryz.underlying59 (by exact size_pa) rfl ⟨gL, rfl, bL, rL, sb⟩
def pkB (a0 : Int) : Bool := decide (bits .and .i64 a0 1 = 1)
theorem rpick_any (a0 : Int) (w : World) :
  Calls Tryz.prog 23 #[.int .i64 a0] w fun e w' => ∃ g, e = .returned (.agg (paC (some ⟨g, 0, none⟩) 3 3 (pk2 (pkB a0) otG leG))) ∧ w.heap.size ≤ g ∧ Row w' g (lksC 3 (lN (pk2 (pkB a0) otL leL)) twoA) 91 ∧ Below w.heap.size w w' := by
 cases h : pkB a0 with
 | true => exact rpick_1 a0 _ w rfl h
 | false => exact rpick_0 a0 _ w rfl h
theorem pk2_gr (b : Bool) : grN 3 (lN (pk2 b otL leL)) twoA (pk2 b otG leG) = true ∧ (∀ i, i < 3 → lN (pk2 b otL leL) i < 2 ^ 256) ∧ pk2 b otG leG < 2 ^ 256 ∧ lN (pk2 b otL leL) (3 - 2) < 4611686018427387904 := by
 cases b with
 | true => exact ⟨other_is, ot_lt, by decide, by decide⟩
 | false => exact ⟨least_is, le_lt, by decide, by decide⟩
end Go.Proofs.YtfhgdgnhcmakhaaGreat
