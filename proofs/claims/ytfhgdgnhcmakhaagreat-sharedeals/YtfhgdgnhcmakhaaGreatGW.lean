import Derived.Test.YtfhgdgnhcmakhaaGreatGNew
import Derived.Test.YtfhgdgnhcmakhaaGreatGTypes
import Derived.Test.YtfhgdgnhcmakhaaGreatGV
set_option maxRecDepth 100000
set_option maxHeartbeats 2000000
namespace Go.Proofs.YtfhgdgnhcmakhaaGreat
open Go.RowKit
section
variable {P : Program} {o : Oper} {ρ : Operand → Value}
theorem y_subI (t : TypeId) (x y : Operand) (u : TypeId) (ho : o.op = .binOp .sub t x y u) (n m r : Int) (hx : ρ x = .int .i64 n) (hy : ρ y = .int .i64 m) (hr : IntKind.i64.wrap (n - m) = r) (w : World) :
  (execOp ρ o).run P w = .ok (.value (.int .i64 r)) w := by
 subst hr
 unfold execOp
 simp only [ho, hx, hy]
 simp [go_sem]
end
def sizeZ (Q : Nat) : Int := ((bitLen Q : Int) - 1).tdiv 8
def KnAt (w : World) (v : Option Addr) (P Q G : Nat) (r f : Option Addr) : Prop := (v = none ∧ P = 0 ∧ Q = 0 ∧ G = 0 ∧ r = none ∧ f = none) ∨ ∃ g, v = some ⟨g, 0, none⟩ ∧ Row w g (gpC P Q G r f) 89
theorem KnAt.below {w w' : World} {v : Option Addr} {P Q G : Nat} {r f : Option Addr} (h : KnAt w v P Q G r f) (hb : Below w.heap.size w w') : KnAt w' v P Q G r f := h.imp id fun ⟨g, h1, h2⟩ => ⟨g, h1, h2.belowAll hb⟩
theorem GrpAt.kn {w : World} {g gr gf P Q G : Nat} (h : GrpAt w g gr gf P Q G) : KnAt w (some ⟨g, 0, none⟩) P Q G (some ⟨gr, 0, none⟩) (some ⟨gf, 0, none⟩) := .inr ⟨g, rfl, h.row⟩
theorem ptr_grp : Tryz.prog.underlying 24 = some (.pointer (Tryz.prog.pointee 24)) := by kernel_rfl
theorem known_no (w : World) :
  Calls Tryz.prog 77 #[.pointer none] w fun e w' => e = .returned (.agg (gpC 0 0 0 none none)) ∧ Below w.heap.size w w' := by
 go_enter Tryz.func77, Tryz.ntmps77
 iterate 2 go_step
 refine rp ?_
 refine pw_new (by rfl) 89 rfl _ zero_gp ?_
 intro g2 z0 n0 r2 k
 simp only [pv]
 have b2 : w.heap.size ≤ g2 := n0
 clear n0
 have sb := k.below w.heap.size (Nat.le_refl _) (by simp)
 clear k
 refine pw_nil ?_
 iterate 4 go_step
 refine rp ?_
 refine pw_mv (by rfl) rfl rfl ?_
 simp only [pv]
 refine pw_value (by rfl) (.bool true) (exec_eql_nilp _ _ _ _ rfl none rfl rfl ptr_grp) ?_
 simp only [pv]
 refine pw_nil ?_
 iterate 4 go_step
 refine rp ?_
 refine pw_value (by rfl) (.agg (gpC 0 0 0 none none)) (exec_build0 _ rfl _ built_gp0) ?_
 simp only [pv]
 refine pw_put (by rfl) 89 _ _ rfl _ rfl r2 (gpC 0 0 0 none none) rfl (by exact size_gp) (by rfl) (gp_one _ _ _ _ _) ?_
 clear r2
 intro z2001 r2 k
 simp only [Act.put]
 replace sb := kk sb k
 clear k
 refine pw_nil ?_
 go_wp2
 exact ret_rowd rfl _ rfl r2 _ Tryz.underlying89 (by exact size_gp) rfl ⟨rfl, sb⟩
theorem known_yes (g5 P Q G : Nat) (r f : Option Addr) (w : World) (r5 : Row w g5 (gpC P Q G r f) 89) :
  Calls Tryz.prog 77 #[.pointer (some ⟨g5, 0, none⟩)] w fun e w' => e = .returned (.agg (gpC P Q G r f)) ∧ Below w.heap.size w w' := by
 go_enter Tryz.func77, Tryz.ntmps77
 iterate 2 go_step
 refine rp ?_
 refine pw_new (by rfl) 89 rfl _ zero_gp ?_
 intro g2 z0 n0 r2 k
 simp only [pv]
 have d5x2 := Nat.lt_of_lt_of_le r5.lt n0
 have b2 : w.heap.size ≤ g2 := n0
 clear n0
 replace r5 := k.ro r5
 have sb := k.below w.heap.size (Nat.le_refl _) (by simp)
 clear k
 refine pw_nil ?_
 iterate 4 go_step
 refine rp ?_
 refine pw_mv (by rfl) rfl rfl ?_
 simp only [pv]
 refine pw_value (by rfl) (.bool false) (exec_eql_nilp _ _ _ _ rfl (some ⟨g5, 0, none⟩) rfl rfl ptr_grp) ?_
 simp only [pv]
 refine pw_nil ?_
 iterate 7 go_step
 refine rp ?_
 refine pw_mv (by rfl) rfl rfl ?_
 simp only [pv]
 refine pw_value (by rfl) (.pointer (some ⟨g5, 0, none⟩)) (exec_nil _ rfl g5 0 rfl) ?_
 simp only [pv]
 refine pw_loadm (by rfl) 89 _ rfl _ 0 rfl r5.r _ (part_all _) _ Tryz.underlying89 rfl size_gp ?_
 simp only [pv]
 refine pw_put (by rfl) 89 _ _ rfl _ rfl r2 (gpC P Q G r f) rfl (by exact size_gp) (by rfl) (gp_one _ _ _ _ _) ?_
 clear r2
 intro z3003 r2 k
 simp only [Act.put]
 replace r5 := k.ro r5
 replace sb := kk sb k
 clear k
 refine pw_nil ?_
 go_wp2
 exact ret_rowd rfl _ rfl r2 _ Tryz.underlying89 (by exact size_gp) rfl ⟨rfl, sb⟩
theorem known_any (v : Option Addr) (P Q G : Nat) (r f : Option Addr) (w : World) (h : KnAt w v P Q G r f) :
  Calls Tryz.prog 77 #[.pointer v] w fun e w' => e = .returned (.agg (gpC P Q G r f)) ∧ Below w.heap.size w w' := by
 rcases h with ⟨rfl, rfl, rfl, rfl, rfl, rfl⟩ | ⟨g, rfl, hr⟩
 ·exact known_no w
 ·exact known_yes g P Q G r f w hr
theorem grpQ_any (v : Option Addr) (P Q G : Nat) (r f : Option Addr) (w : World) (h : KnAt w v P Q G r f) :
  Calls Tryz.prog 83 #[.pointer v] w fun e w' => e = .returned (.agg (natC Q)) ∧ Below w.heap.size w w' := by
 have hkn := fun w' (hb : Below w.heap.size w w') => known_any v P Q G r f w' (h.below hb)
 clear h
 go_enter Tryz.func83, Tryz.ntmps83
 iterate 2 go_step
 refine rp ?_
 refine pw_new (by rfl) 38 rfl _ zero_nat ?_
 intro g2 z0 n0 r2 k
 simp only [pv]
 have b2 : w.heap.size ≤ g2 := n0
 clear n0
 have sb := k.below w.heap.size (Nat.le_refl _) (by simp)
 clear k
 refine pw_nil ?_
 iterate 3 go_step
 refine rp ?_
 refine pw_mv (by rfl) rfl rfl ?_
 simp only [pv]
 refine pw_callB (by rfl) 77 _ _ rfl Tryz.func77 (by kernel_rfl) #[.pointer v] rfl _ (hkn _ sb) ?_
 intro z1001 k
 simp only [pv]
 replace r2 := k.ro r2
 replace sb := kk sb k
 clear k
 refine pw_value (by rfl) (.agg (mdC P Q G)) (exec_fieldv _ _ _ rfl _ _ rfl (gp_made P Q G r f)) ?_
 simp only [pv]
 refine pw_value (by rfl) (.agg (natC Q)) (exec_fieldv _ _ _ rfl _ _ rfl (mdf_q P Q G)) ?_
 simp only [pv]
 refine pw_put (by rfl) 38 _ _ rfl _ rfl r2 (natC Q) rfl (by exact size_nat) (by simp only [natC_size]) (natC_one _) ?_
 clear r2
 intro z1004 r2 k
 simp only [Act.put]
 replace sb := kk sb k
 clear k
 refine pw_nil ?_
 go_wp2
 exact ret_row rfl _ rfl r2 4 _ Tryz.underlying38 (by exact size_nat) rfl ⟨rfl, sb⟩
theorem grpField_any (v : Option Addr) (P Q G : Nat) (r f : Option Addr) (w : World) (h : KnAt w v P Q G r f) :
  Calls Tryz.prog 52 #[.pointer v] w fun e w' => e = .returned (.pointer f) ∧ Below w.heap.size w w' := by
 have hkn := fun w' (hb : Below w.heap.size w w') => known_any v P Q G r f w' (h.below hb)
 clear h
 go_enter Tryz.func52, Tryz.ntmps52
 have sb := Below.refl w.heap.size w
 iterate 2 go_step
 refine rp ?_
 refine pw_value (by rfl) (.pointer none) (fun _ => rfl) ?_
 simp only [pv]
 refine pw_nil ?_
 iterate 3 go_step
 refine rp ?_
 refine pw_mv (by rfl) rfl rfl ?_
 simp only [pv]
 refine pw_callB (by rfl) 77 _ _ rfl Tryz.func77 (by kernel_rfl) #[.pointer v] rfl _ (hkn _ sb) ?_
 intro z1001 k
 simp only [pv]
 replace sb := kk sb k
 clear k
 refine pw_value (by rfl) (.pointer f) (exec_fieldv _ _ _ rfl _ _ rfl (gp_field P Q G r f)) ?_
 refine pw_as (by rfl) rfl rfl ?_
 simp only [pv]
 refine pw_nil ?_
 go_wp2
 go_ret
 exact ⟨rfl, sb⟩
theorem rQ_any (n c : Nat) (ab : Option Addr) (G : Nat) (N : Nat → Nat) (A : Nat → Int) (gb ob : Nat) (bcs : Array Value) (tb : TypeId) (w : World) (h2 : 2 ≤ n) (hn : n < 9223372036854775808) (hL : LinksAt w ab n N A gb ob bcs tb) :
  Calls Tryz.prog 25 #[.agg (paC ab n c G)] w fun e w' => e = .returned (.agg (natC (N (n - 2)))) ∧ Below w.heap.size w w' := by
 obtain h0 | ⟨rfl, rB, hat⟩ := hL.at'
 ·omega
 have h1 := hat (n - 2) (by omega)
 clear hL hat
 generalize N (n - 2) = P at *
 generalize A (n - 2) = zp at *
 go_enter Tryz.func25, Tryz.ntmps25
 iterate 2 go_step
 refine rp ?_
 refine pw_boxr (by rfl) 59 _ rfl (_) rfl ?_
 intro g1 z0 n0 r1 k
 simp only [pv]
 have b1 : w.heap.size ≤ g1 := n0
 clear n0
 have sb := k.below w.heap.size (Nat.le_refl _) (by simp)
 clear k
 refine pw_new (by rfl) 38 rfl _ zero_nat ?_
 intro g2 z1 n0 r2 k
 simp only [pv]
 have d1x2 := Nat.lt_of_lt_of_le r1.lt n0
 have b2 := Nat.le_trans sb.size n0
 clear n0
 replace r1 := k.ro r1
 replace sb := kk sb k
 clear k
 refine pw_nil ?_
 replace rB := rB.belowAll sb
 iterate 4 go_step
 refine rp ?_
 refine pw_value (by rfl) (.pointer (some ⟨g1, 0, none⟩)) (exec_field 59 _ 0 rfl g1 0 rfl _ Tryz.underlying59 _ rfl 0 Tryz.sizeOf57) ?_
 simp only [pv]
 refine pw_loadk (by rfl) 57 _ rfl _ (0) rfl r1.r (.slice (some ⟨gb, ob, none⟩) n c) rfl Tryz.isAgg57 ?_
 simp only [pv]
 refine pw_value (by rfl) (.int .i64 n) (exec_len_s 57 _ rfl (some ⟨gb, ob, none⟩) n c rfl sl_link) ?_
 simp only [pv]
 refine pw_value (by rfl) (.bool false) (exec_lt_b _ _ _ _ rfl n 2 rfl rfl false (decide_eq_false (by omega))) ?_
 simp only [pv]
 refine pw_nil ?_
 iterate 7 go_step
 refine rp ?_
 refine pw_value (by rfl) (.pointer (some ⟨g1, 0, none⟩)) (exec_field 59 _ 0 rfl g1 0 rfl _ Tryz.underlying59 _ rfl 0 Tryz.sizeOf57) ?_
 simp only [pv]
 refine pw_loadk (by rfl) 57 _ rfl _ (0) rfl r1.r (.slice (some ⟨gb, ob, none⟩) n c) rfl Tryz.isAgg57 ?_
 simp only [pv]
 refine pw_value (by rfl) (.pointer (some ⟨g1, 0, none⟩)) (exec_field 59 _ 0 rfl g1 0 rfl _ Tryz.underlying59 _ rfl 0 Tryz.sizeOf57) ?_
 simp only [pv]
 refine pw_loadk (by rfl) 57 _ rfl _ (0) rfl r1.r (.slice (some ⟨gb, ob, none⟩) n c) rfl Tryz.isAgg57 ?_
 simp only [pv]
 refine pw_value (by rfl) (.int .i64 n) (exec_len_s 57 _ rfl (some ⟨gb, ob, none⟩) n c rfl sl_link) ?_
 simp only [pv]
 refine pw_value (by rfl) (.int .i64 ((n - 2 : Nat) : Int)) (exec_sub_in _ _ _ _ rfl n 2 rfl rfl (by omega) hn) ?_
 simp only [pv]
 refine pw_value (by rfl) (.pointer (some ⟨gb, ob + (n - 2) * 5, none⟩)) (exec_index_s 57 _ _ rfl gb ob n c rfl (n - 2) rfl (by omega) _ Tryz.underlying57 5 Tryz.sizeOf91) ?_
 simp only [pv]
 refine pw_value (by rfl) (.pointer (some ⟨gb, ob + (n - 2) * 5, none⟩)) (exec_field 91 _ 0 rfl gb (ob + (n - 2) * 5) rfl _ Tryz.underlying91 _ rfl 3 Tryz.sizeOf38) ?_
 simp only [pv]
 refine pw_loadm (by rfl) 38 _ rfl _ (ob + (n - 2) * 5) rfl rB (natC P) (lk_part h1) _ Tryz.underlying38 rfl size_nat ?_
 simp only [pv]
 refine pw_put (by rfl) 38 _ _ rfl _ rfl r2 (natC P) rfl (by exact size_nat) (by simp only [natC_size]) (natC_one _) ?_
 clear r2
 intro z3009 r2 k
 simp only [Act.put]
 replace r1 := k.ro r1
 replace sb := kk sb k
 clear k
 refine pw_nil ?_
 go_wp2
 exact ret_row rfl _ rfl r2 4 _ Tryz.underlying38 (by exact size_nat) rfl ⟨rfl, sb⟩
theorem lit_lks {n : Nat} (vs : List (Nat × Value)) (c : Array Value) (k : Nat) (hk : k = 5) (h : Instr.fill (fun i => some (i * 5, 5)) ((Array.range (n * 5)).map ((Value.agg #[.int .u64 0, .int .u64 0, .int .u64 0, .int .u64 0, .int .i64 0]).cells[· % (Value.agg #[.int .u64 0, .int .u64 0, .int .u64 0, .int .u64 0, .int .i64 0]).cells.size]!)) vs = some c) :
  Instr.fill (fun i => some (i * k, k)) ((Array.range (n * k)).map ((Value.agg #[.int .u64 0, .int .u64 0, .int .u64 0, .int .u64 0, .int .i64 0]).cells[· % (Value.agg #[.int .u64 0, .int .u64 0, .int .u64 0, .int .u64 0, .int .i64 0]).cells.size]!)) vs = some c := by
 subst hk; exact h
theorem le_lits : Instr.fill (fun i => some (i * 5, 5)) ((Array.range (3 * 5)).map ((Value.agg #[.int .u64 0, .int .u64 0, .int .u64 0, .int .u64 0, .int .i64 0]).cells[· % (Value.agg #[.int .u64 0, .int .u64 0, .int .u64 0, .int .u64 0, .int .i64 0]).cells.size]!)) [(0, .agg (lkC 65521 0)), (1, .agg (lkC 1966023127 2)), (2, .agg (lkC 1055500680322183127 2))] = some (lksC 3 (lN leL) twoA) := by kernel_rfl
theorem rleast_any (w : World) :
  Calls Tryz.prog 46 #[] w fun e w' => ∃ g, e = .returned (.agg (paC (some ⟨g, 0, none⟩) 3 3 leG)) ∧ w.heap.size ≤ g ∧ Row w' g (lksC 3 (lN leL) twoA) 91 ∧ Below w.heap.size w w' := by
 obtain ⟨ie, hie, hz, hsz⟩ := info_lk'
 have hs1 : ¬ 3 * ie.size > 2 ^ 24 := by rw [hsz]; decide
 have hs2 : ¬ 3 * ie.size = 0 := by rw [hsz]; decide
 have hl := lit_lks _ _ ie.size hsz le_lits
 go_enter Tryz.func46, Tryz.ntmps46
 iterate 2 go_step
 refine rp ?_
 refine pw_new (by rfl) 59 rfl _ zero_pa ?_
 intro g0 z0 n0 r0 k
 simp only [Act.put, List.setIfInBounds_toArray, List.set_cons_zero]
 have b0 : w.heap.size ≤ g0 := n0
 clear n0
 have sb := k.below w.heap.size (Nat.le_refl _) (by simp)
 clear k
 refine pw_nil ?_
 iterate 3 go_step
 refine rp ?_
 refine pw_value (by rfl) (.agg (natC 65521)) (exec_buildv _ _ rfl [(0, .int .u64 65521)] rfl _ (by kernel_rfl)) ?_
 simp only [pv]
 refine pw_value (by rfl) (.agg (lkC 65521 0)) (exec_link2 65521 0 rfl rfl rfl) ?_
 simp only [pv]
 refine pw_value (by rfl) (.agg (natC 1966023127)) (exec_buildv _ _ rfl [(0, .int .u64 1966023127)] rfl _ (by kernel_rfl)) ?_
 simp only [pv]
 refine pw_value (by rfl) (.agg (lkC 1966023127 2)) (exec_link2 1966023127 2 rfl rfl rfl) ?_
 simp only [pv]
 refine pw_value (by rfl) (.agg (natC 1055500680322183127)) (exec_buildv _ _ rfl [(0, .int .u64 1055500680322183127)] rfl _ (by kernel_rfl)) ?_
 simp only [pv]
 refine pw_value (by rfl) (.agg (lkC 1055500680322183127 2)) (exec_link2 1055500680322183127 2 rfl rfl rfl) ?_
 simp only [pv]
 refine pw_litr (by rfl) 57 91 3 _ rfl (lksC 3 (lN leL) twoA) ie _ Tryz.underlying57 hie hz hs1 hs2 [(0, .agg (lkC 65521 0)), (1, .agg (lkC 1966023127 2)), (2, .agg (lkC 1055500680322183127 2))] rfl hl ?_
 intro gT z1006 n0 rT k
 simp only [pv]
 have d0xT := Nat.lt_of_lt_of_le r0.lt n0
 have bT := Nat.le_trans sb.size n0
 clear n0
 replace r0 := k.ro r0
 replace sb := kk sb k
 clear k
 refine pw_value (by rfl) (.agg (natC 316543771439780984)) (exec_buildv _ _ rfl [(0, .int .u64 316543771439780984)] rfl _ (by kernel_rfl)) ?_
 simp only [pv]
 refine pw_value (by rfl) (.agg (paC (some ⟨gT, 0, none⟩) 3 3 leG)) (exec_buildv _ _ rfl [(0, .slice (some ⟨gT, 0, none⟩) 3 3), (1, .agg (natC leG))] rfl _ (built_pa _ _ _ _)) ?_
 simp only [pv]
 refine pw_put (by rfl) 59 _ _ rfl _ rfl r0 (paC (some ⟨gT, 0, none⟩) 3 3 leG) rfl (by exact size_pa) (by rfl) (pa_one _ _ _ _) ?_
 clear r0
 intro z1009 r0 k
 simp only [Act.put]
 replace rT := k.ro rT
 replace sb := kk sb k
 clear k
 refine pw_nil ?_
 go_wp2
 exact ret_rowd rfl _ rfl r0 _ Tryz.underlying59 (by exact size_pa) rfl ⟨gT, rfl, bT, rT, sb⟩
theorem ot_lits : Instr.fill (fun i => some (i * 5, 5)) ((Array.range (3 * 5)).map ((Value.agg #[.int .u64 0, .int .u64 0, .int .u64 0, .int .u64 0, .int .i64 0]).cells[· % (Value.agg #[.int .u64 0, .int .u64 0, .int .u64 0, .int .u64 0, .int .i64 0]).cells.size]!)) [(0, .agg (lkC 64817 0)), (1, .agg (lkC 1815135269 2)), (2, .agg (lkC 487269091447081429 2))] = some (lksC 3 (lN otL) twoA) := by kernel_rfl
theorem rother_any (w : World) :
  Calls Tryz.prog 45 #[] w fun e w' => ∃ g, e = .returned (.agg (paC (some ⟨g, 0, none⟩) 3 3 otG)) ∧ w.heap.size ≤ g ∧ Row w' g (lksC 3 (lN otL) twoA) 91 ∧ Below w.heap.size w w' := by
 obtain ⟨ie, hie, hz, hsz⟩ := info_lk'
 have hs1 : ¬ 3 * ie.size > 2 ^ 24 := by rw [hsz]; decide
 have hs2 : ¬ 3 * ie.size = 0 := by rw [hsz]; decide
 have hl := lit_lks _ _ ie.size hsz ot_lits
 go_enter Tryz.func45, Tryz.ntmps45
 iterate 2 go_step
 refine rp ?_
 refine pw_new (by rfl) 59 rfl _ zero_pa ?_
 intro g0 z0 n0 r0 k
 simp only [Act.put, List.setIfInBounds_toArray, List.set_cons_zero]
 have b0 : w.heap.size ≤ g0 := n0
 clear n0
 have sb := k.below w.heap.size (Nat.le_refl _) (by simp)
 clear k
 refine pw_nil ?_
 iterate 3 go_step
 refine rp ?_
 refine pw_value (by rfl) (.agg (natC 64817)) (exec_buildv _ _ rfl [(0, .int .u64 64817)] rfl _ (by kernel_rfl)) ?_
 simp only [pv]
 refine pw_value (by rfl) (.agg (lkC 64817 0)) (exec_link2 64817 0 rfl rfl rfl) ?_
 simp only [pv]
 refine pw_value (by rfl) (.agg (natC 1815135269)) (exec_buildv _ _ rfl [(0, .int .u64 1815135269)] rfl _ (by kernel_rfl)) ?_
 simp only [pv]
 refine pw_value (by rfl) (.agg (lkC 1815135269 2)) (exec_link2 1815135269 2 rfl rfl rfl) ?_
 simp only [pv]
 refine pw_value (by rfl) (.agg (natC 487269091447081429)) (exec_buildv _ _ rfl [(0, .int .u64 487269091447081429)] rfl _ (by kernel_rfl)) ?_
 simp only [pv]
 refine pw_value (by rfl) (.agg (lkC 487269091447081429 2)) (exec_link2 487269091447081429 2 rfl rfl rfl) ?_
 simp only [pv]
 refine pw_litr (by rfl) 57 91 3 _ rfl (lksC 3 (lN otL) twoA) ie _ Tryz.underlying57 hie hz hs1 hs2 [(0, .agg (lkC 64817 0)), (1, .agg (lkC 1815135269 2)), (2, .agg (lkC 487269091447081429 2))] rfl hl ?_
 intro gT z1006 n0 rT k
 simp only [pv]
 have d0xT := Nat.lt_of_lt_of_le r0.lt n0
 have bT := Nat.le_trans sb.size n0
 clear n0
 replace r0 := k.ro r0
 replace sb := kk sb k
 clear k
 refine pw_value (by rfl) (.agg (natC 54624333139524128)) (exec_buildv _ _ rfl [(0, .int .u64 54624333139524128)] rfl _ (by kernel_rfl)) ?_
 simp only [pv]
 refine pw_value (by rfl) (.agg (paC (some ⟨gT, 0, none⟩) 3 3 otG)) (exec_buildv _ _ rfl [(0, .slice (some ⟨gT, 0, none⟩) 3 3), (1, .agg (natC otG))] rfl _ (built_pa _ _ _ _)) ?_
 simp only [pv]
 refine pw_put (by rfl) 59 _ _ rfl _ rfl r0 (paC (some ⟨gT, 0, none⟩) 3 3 otG) rfl (by exact size_pa) (by rfl) (pa_one _ _ _ _) ?_
 clear r0
 intro z1009 r0 k
 simp only [Act.put]
 replace rT := k.ro rT
 replace sb := kk sb k
 clear k
 refine pw_nil ?_
 go_wp2
 exact ret_rowd rfl _ rfl r0 _ Tryz.underlying59 (by exact size_pa) rfl ⟨gT, rfl, bT, rT, sb⟩
def pk {α : Type} (m : Nat) (a b c : α) : α := if m = 0 then a else if m = 1 then b else c
def pasC (x y z : Option Addr) (n m l X Y Z : Nat) : Array Value := #[.slice x n n, .int .u64 (lm X 0), .int .u64 (lm X 1), .int .u64 (lm X 2), .int .u64 (lm X 3), .slice y m m, .int .u64 (lm Y 0), .int .u64 (lm Y 1), .int .u64 (lm Y 2), .int .u64 (lm Y 3), .slice z l l, .int .u64 (lm Z 0), .int .u64 (lm Z 1), .int .u64 (lm Z 2), .int .u64 (lm Z 3)]
def ly8 (x : Int) : Nat := (x % 256).toNat
end Go.Proofs.YtfhgdgnhcmakhaaGreat
