/- group's known, P, Q, G, Size, Ring, Field: of a group that New has made, and of one that nobody made. -/
import Derived.Test.YtcgeimbfijpocaaGNew
namespace Go.Proofs.Ytcgeimbfijpocaa
open Go.RowKit
section
variable {P : Program} {o : Oper} {ρ : Operand → Value}
theorem y_subI (t : TypeId) (x y : Operand) (u : TypeId) (ho : o.op = .binOp .sub t x y u) (n m r : Int) (hx : ρ x = .int .i64 n) (hy : ρ y = .int .i64 m) (hr : IntKind.i64.wrap (n - m) = r) (w : World) :
  (execOp ρ o).run P w = .ok (.value (.int .i64 r)) w := by
 subst hr
 unfold execOp
 simp only [ho, hx, hy]
 simp [go_sem]
theorem y_quoI (t : TypeId) (x y : Operand) (u : TypeId) (ho : o.op = .binOp .quo t x y u) (n m r : Int) (hx : ρ x = .int .i64 n) (hy : ρ y = .int .i64 m) (hm : ¬ m = 0) (hr : IntKind.i64.wrap (n.tdiv m) = r) (w : World) :
  (execOp ρ o).run P w = .ok (.value (.int .i64 r)) w := by
 subst hr
 unfold execOp
 simp only [ho, hx, hy]
 simp [go_sem]
 exact hm
end
/-- A group's size. -/
def sizeZ (Q : Nat) : Int := ((bitLen Q : Int) - 1).tdiv 8
theorem sizeZ_wrap (Q : Nat) (h : bitLen Q ≤ 256) : IntKind.i64.wrap ((bitLen Q : Int) - 1) = (bitLen Q : Int) - 1 ∧ IntKind.i64.wrap (((bitLen Q : Int) - 1).tdiv 8) = sizeZ Q := by
 refine ⟨by rw [IntKind.wrap_i64]; omega, ?_⟩
 unfold sizeZ
 generalize bitLen Q = x at *
 match x, h with
 | 0, _ => decide
 | x + 1, h =>
  have e : (((x + 1 : Nat) : Int) - 1) = (x : Int) := by omega
  rw [e, show (8 : Int) = ((8 : Nat) : Int) from rfl, ← Int.ofNat_tdiv, IntKind.wrap_i64]
  have : x / 8 ≤ x := Nat.div_le_self _ _
  omega
/-- What is known of a group: of one that nobody made, nothing. -/
def KnAt (w : World) (v : Option Addr) (P Q G : Nat) (r f : Option Addr) : Prop := (v = none ∧ P = 0 ∧ Q = 0 ∧ G = 0 ∧ r = none ∧ f = none) ∨ ∃ g, v = some ⟨g, 0, none⟩ ∧ Row w g (gpC P Q G r f) 56
theorem KnAt.below {w w' : World} {v : Option Addr} {P Q G : Nat} {r f : Option Addr} (h : KnAt w v P Q G r f) (hb : Below w.heap.size w w') : KnAt w' v P Q G r f := h.imp id fun ⟨g, h1, h2⟩ => ⟨g, h1, h2.belowAll hb⟩
theorem GrpAt.kn {w : World} {g gr gf P Q G : Nat} (h : GrpAt w g gr gf P Q G) : KnAt w (some ⟨g, 0, none⟩) P Q G (some ⟨gr, 0, none⟩) (some ⟨gf, 0, none⟩) := .inr ⟨g, rfl, h.row⟩
theorem ptr_grp : Try.prog.underlying 29 = some (.pointer (Try.prog.pointee 29)) := by kernel_rfl
set_option maxRecDepth 100000 in
set_option maxHeartbeats 2000000 in
theorem known_no (w : World) :
  Calls Try.prog 59 #[.pointer none] w fun e w' => e = .returned (.agg (gpC 0 0 0 none none)) ∧ Below w.heap.size w w' := by
 go_enter Try.func59, Try.ntmps59
 (repeat ((fail_if_success with_reducible refine rg ?_); go_step))
 refine wp_region_pw ?_
 refine pw_new (by rfl) 56 rfl _ zero_gp ?_
 intro g2 z0 n0 r2 k
 simp only [Act.put, pu]
 have b2 : w.heap.size ≤ g2 := n0
 clear n0
 have sb := k.below w.heap.size (Nat.le_refl _) (by simp)
 clear k
 refine pw_nil ?_
 (repeat ((fail_if_success with_reducible refine rg ?_); go_step))
 refine wp_region_pw ?_
 refine pw_mv (by rfl) rfl rfl ?_
 simp only [Act.put, pu]
 refine pw_value (by rfl) (.bool true) (exec_eql_nilp _ _ _ _ rfl none rfl rfl ptr_grp) ?_
 simp only [Act.put, pu]
 refine pw_nil ?_
 (repeat ((fail_if_success with_reducible refine rg ?_); go_step))
 refine wp_region_pw ?_
 refine pw_value (by rfl) (.agg (gpC 0 0 0 none none)) (exec_build0 _ rfl _ built_gp0) ?_
 simp only [Act.put, pu]
 refine pw_put (by rfl) 56 _ _ rfl _ rfl r2 (gpC 0 0 0 none none) rfl (by exact size_gp) (by rfl) (gp_one _ _ _ _ _) ?_
 clear r2
 intro z2001 r2 k
 simp only [Act.put]
 replace sb := sb.trans (k.below w.heap.size sb.size (by simp <;> omega))
 clear k
 refine pw_nil ?_
 go_wp2
 exact ret_rowd rfl _ rfl r2 _ Try.underlying56 (by exact size_gp) rfl ⟨rfl, sb⟩
set_option maxRecDepth 100000 in
set_option maxHeartbeats 2000000 in
theorem known_yes (g5 P Q G : Nat) (r f : Option Addr) (w : World) (r5 : Row w g5 (gpC P Q G r f) 56) :
  Calls Try.prog 59 #[.pointer (some ⟨g5, 0, none⟩)] w fun e w' => e = .returned (.agg (gpC P Q G r f)) ∧ Below w.heap.size w w' := by
 go_enter Try.func59, Try.ntmps59
 (repeat ((fail_if_success with_reducible refine rg ?_); go_step))
 refine wp_region_pw ?_
 refine pw_new (by rfl) 56 rfl _ zero_gp ?_
 intro g2 z0 n0 r2 k
 simp only [Act.put, pu]
 have d5x2 := Nat.lt_of_lt_of_le r5.lt n0
 have b2 : w.heap.size ≤ g2 := n0
 clear n0
 replace r5 := k.row r5 (by simp <;> omega)
 have sb := k.below w.heap.size (Nat.le_refl _) (by simp)
 clear k
 refine pw_nil ?_
 (repeat ((fail_if_success with_reducible refine rg ?_); go_step))
 refine wp_region_pw ?_
 refine pw_mv (by rfl) rfl rfl ?_
 simp only [Act.put, pu]
 refine pw_value (by rfl) (.bool false) (exec_eql_nilp _ _ _ _ rfl (some ⟨g5, 0, none⟩) rfl rfl ptr_grp) ?_
 simp only [Act.put, pu]
 refine pw_nil ?_
 (repeat ((fail_if_success with_reducible refine rg ?_); go_step))
 refine wp_region_pw ?_
 refine pw_mv (by rfl) rfl rfl ?_
 simp only [Act.put, pu]
 refine pw_value (by rfl) (.pointer (some ⟨g5, 0, none⟩)) (exec_nil _ rfl g5 0 rfl) ?_
 simp only [Act.put, pu]
 refine pw_loadm (by rfl) 56 _ rfl _ 0 rfl r5.r _ (part_all _) _ Try.underlying56 rfl size_gp ?_
 simp only [Act.put, pu]
 refine pw_put (by rfl) 56 _ _ rfl _ rfl r2 (gpC P Q G r f) rfl (by exact size_gp) (by rfl) (gp_one _ _ _ _ _) ?_
 clear r2
 intro z3003 r2 k
 simp only [Act.put]
 replace r5 := k.row r5 (by simp <;> omega)
 replace sb := sb.trans (k.below w.heap.size sb.size (by simp <;> omega))
 clear k
 refine pw_nil ?_
 go_wp2
 exact ret_rowd rfl _ rfl r2 _ Try.underlying56 (by exact size_gp) rfl ⟨rfl, sb⟩
theorem known_any (v : Option Addr) (P Q G : Nat) (r f : Option Addr) (w : World) (h : KnAt w v P Q G r f) :
  Calls Try.prog 59 #[.pointer v] w fun e w' => e = .returned (.agg (gpC P Q G r f)) ∧ Below w.heap.size w w' := by
 rcases h with ⟨rfl, rfl, rfl, rfl, rfl, rfl⟩ | ⟨g, rfl, hr⟩
 ·exact known_no w
 ·exact known_yes g P Q G r f w hr
set_option maxRecDepth 100000 in
set_option maxHeartbeats 2000000 in
theorem grpQ_any (v : Option Addr) (P Q G : Nat) (r f : Option Addr) (w : World) (h : KnAt w v P Q G r f) :
  Calls Try.prog 41 #[.pointer v] w fun e w' => e = .returned (.agg (natC Q)) ∧ Below w.heap.size w w' := by
 have hkn := fun w' (hb : Below w.heap.size w w') => known_any v P Q G r f w' (h.below hb)
 clear h
 go_enter Try.func41, Try.ntmps41
 (repeat ((fail_if_success with_reducible refine rg ?_); go_step))
 refine wp_region_pw ?_
 refine pw_new (by rfl) 24 rfl _ zero_nat ?_
 intro g2 z0 n0 r2 k
 simp only [Act.put, pu]
 have b2 : w.heap.size ≤ g2 := n0
 clear n0
 have sb := k.below w.heap.size (Nat.le_refl _) (by simp)
 clear k
 refine pw_nil ?_
 (repeat ((fail_if_success with_reducible refine rg ?_); go_step))
 refine wp_region_pw ?_
 refine pw_mv (by rfl) rfl rfl ?_
 simp only [Act.put, pu]
 refine pw_callB (by rfl) 59 _ _ rfl Try.func59 (by kernel_rfl) #[.pointer v] rfl _ (hkn _ sb) ?_
 intro z1001 k
 simp only [Act.put, pu]
 replace r2 := k.row r2 (by simp <;> omega)
 replace sb := sb.trans (k.below w.heap.size sb.size (by simp <;> omega))
 clear k
 refine pw_value (by rfl) (.agg (mdC P Q G)) (exec_fieldv _ _ _ rfl _ _ rfl (gp_made P Q G r f)) ?_
 simp only [Act.put, pu]
 refine pw_value (by rfl) (.agg (natC Q)) (exec_fieldv _ _ _ rfl _ _ rfl (mdf_q P Q G)) ?_
 simp only [Act.put, pu]
 refine pw_put (by rfl) 24 _ _ rfl _ rfl r2 (natC Q) rfl (by exact size_nat) (by simp only [natC_size]) (natC_one _) ?_
 clear r2
 intro z1004 r2 k
 simp only [Act.put]
 replace sb := sb.trans (k.below w.heap.size sb.size (by simp <;> omega))
 clear k
 refine pw_nil ?_
 go_wp2
 exact ret_row rfl _ rfl r2 4 _ Try.underlying24 (by exact size_nat) rfl ⟨rfl, sb⟩
set_option maxRecDepth 100000 in
set_option maxHeartbeats 2000000 in
theorem grpField_any (v : Option Addr) (P Q G : Nat) (r f : Option Addr) (w : World) (h : KnAt w v P Q G r f) :
  Calls Try.prog 38 #[.pointer v] w fun e w' => e = .returned (.pointer f) ∧ Below w.heap.size w w' := by
 have hkn := fun w' (hb : Below w.heap.size w w') => known_any v P Q G r f w' (h.below hb)
 clear h
 go_enter Try.func38, Try.ntmps38
 have sb := Below.refl w.heap.size w
 (repeat ((fail_if_success with_reducible refine rg ?_); go_step))
 refine wp_region_pw ?_
 refine pw_value (by rfl) (.pointer none) (fun _ => rfl) ?_
 simp only [Act.put, pu]
 refine pw_nil ?_
 (repeat ((fail_if_success with_reducible refine rg ?_); go_step))
 refine wp_region_pw ?_
 refine pw_mv (by rfl) rfl rfl ?_
 simp only [Act.put, pu]
 refine pw_callB (by rfl) 59 _ _ rfl Try.func59 (by kernel_rfl) #[.pointer v] rfl _ (hkn _ sb) ?_
 intro z1001 k
 simp only [Act.put, pu]
 replace sb := sb.trans (k.below w.heap.size sb.size (by simp <;> omega))
 clear k
 refine pw_value (by rfl) (.pointer f) (exec_fieldv _ _ _ rfl _ _ rfl (gp_field P Q G r f)) ?_
 simp only [Act.put, pu]
 refine pw_as (by rfl) rfl rfl ?_
 simp only [Act.put, pu]
 refine pw_nil ?_
 go_wp2
 go_ret
 exact ⟨rfl, sb⟩
end Go.Proofs.Ytcgeimbfijpocaa
