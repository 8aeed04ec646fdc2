import Derived.Test.YtdionnhelppliaaGreatGY
set_option maxRecDepth 100000
set_option maxHeartbeats 2000000
namespace Go.Proofs.YtdionnhelppliaaGreat
set_option linter.unusedVariables false
open Go.RowKit
def dcN (l : List UInt8) : Nat → Nat
 | 0 => 0
 | k + 1 => dcN l k * 2 ^ 3 + dcN l k * 2 ^ 1 + (yb l k - 48)
def sxC (n : Nat) (f : Nat → List UInt8) : Array Value := Array.ofFn (n := n) fun i => .string ⟨(f i).toArray⟩
theorem size1tint : (Tryz.prog.info? 3).map (·.size) = some 1 := by kernel_rfl
def upN (V : Nat → Nat) (k i : Nat) : Nat := if i < k then V i else 0
def upZ (V : Nat → Int) (k i : Nat) : Int := if i < k then V i else 0
def DigS (l : List UInt8) : Prop := l.length < 9223372036854775808 ∧ ∀ i, i < l.length → 48 ≤ yb l i
def dig? (l : List UInt8) : Bool := l.all fun b => decide (48 ≤ b.toNat)
def dcF : List UInt8 → Nat → Nat
 | [], n => n
 | b :: l, n => dcF l (n * 10 + (b.toNat - 48))
def leS : List UInt8 := [51, 49, 54, 53, 52, 51, 55, 55, 49, 52, 51, 57, 55, 56, 48, 57, 56, 52]
def leT : List (List UInt8) := [[54, 53, 53, 50, 49], [49, 57, 54, 54, 48, 50, 51, 49, 50, 55], [49, 48, 53, 53, 53, 48, 48, 54, 56, 48, 51, 50, 50, 49, 56, 51, 49, 50, 55]]
def leF (i : Nat) : List UInt8 := leT.getD i []
theorem le_lt (i : Nat) (h : i < 3) : lN leL i < 2 ^ 256 := by
 match i, h with
 | 0, _ => decide
 | 1, _ => decide
 | 2, _ => decide
def otS : List UInt8 := [53, 52, 54, 50, 52, 51, 51, 51, 49, 51, 57, 53, 50, 52, 49, 50, 56]
def otT : List (List UInt8) := [[54, 52, 56, 49, 55], [49, 56, 49, 53, 49, 51, 53, 50, 54, 57], [52, 56, 55, 50, 54, 57, 48, 57, 49, 52, 52, 55, 48, 56, 49, 52, 50, 57]]
def otF (i : Nat) : List UInt8 := otT.getD i []
theorem ot_lt (i : Nat) (h : i < 3) : lN otL i < 2 ^ 256 := by
 match i, h with
 | 0, _ => decide
 | 1, _ => decide
 | 2, _ => decide
def grS : List UInt8 := [57, 49, 53, 49, 49, 53, 55, 51, 52, 49, 54, 54, 55, 52, 54, 57, 54, 49, 53, 56, 48, 48, 57, 57, 55, 49, 51, 48, 50, 51, 49, 52, 53, 52, 56, 54, 53, 52, 50, 53, 48, 49, 56, 49, 56, 49, 57, 49, 55, 57, 48, 52, 57, 50, 49, 52, 55, 57, 57, 55, 50, 55, 50, 57]
def grT : List (List UInt8) := [[54, 53, 53, 49, 57], [49, 51, 49, 51, 57, 49, 56, 48, 50, 55], [56, 56, 49, 55, 53, 53, 54, 55, 50, 48, 51, 55, 55, 57, 55, 54, 49], [54, 51, 53, 51, 55, 49, 57, 50, 50, 53, 54, 51, 51, 57, 57, 55, 53, 53, 49, 49, 57, 50, 57, 55, 54, 54, 54, 49, 56, 49, 53, 49, 55, 49], [49, 50, 56, 56, 54, 56, 55, 51, 53, 56, 52, 48, 57, 48, 53, 50, 52, 54, 53, 57, 55, 48, 48, 53, 54, 50, 50, 50, 56, 54, 55, 53, 51, 51, 56, 51, 53, 49, 48, 52, 56, 54, 51, 53, 57, 51, 48, 55, 54, 48, 57, 56, 52, 53, 56, 52, 51, 56, 53, 54, 49, 52, 51, 49, 56, 51]]
def grF (i : Nat) : List UInt8 := grT.getD i []
theorem gr_lt (i : Nat) (h : i < 5) : lN grL i < 2 ^ 256 := by
 match i, h with
 | 0, _ => decide
 | 1, _ => decide
 | 2, _ => decide
 | 3, _ => decide
 | 4, _ => decide
section
variable {P : Program} {o : Oper} {ρ : Operand → Value}
theorem y_subI (t : TypeId) (x y : Operand) (u : TypeId) (ho : o.op = .binOp .sub t x y u) (n m r : Int) (hx : ρ x = .int .i64 n) (hy : ρ y = .int .i64 m) (hr : IntKind.i64.wrap (n - m) = r) (w : World) :
  (execOp ρ o).run P w = .ok (.value (.int .i64 r)) w := by
 subst hr
 unfold execOp
 simp only [ho, hx, hy]
 simp [go_sem]
end
def sizeZ (Q : Nat) : Int := ((bitLen Q : Int) - 1).tdiv 8
def KnAt (w : World) (v : Option Addr) (P Q G : Nat) (r f : Option Addr) : Prop := (v = none ∧ P = 0 ∧ Q = 0 ∧ G = 0 ∧ r = none ∧ f = none) ∨ ∃ g, v = some ⟨g, 0, none⟩ ∧ Row w g (gpC P Q G r f) 65
theorem KnAt.below {w w' : World} {v : Option Addr} {P Q G : Nat} {r f : Option Addr} (h : KnAt w v P Q G r f) (hb : Below w.heap.size w w') : KnAt w' v P Q G r f := h.imp id fun ⟨g, h1, h2⟩ => ⟨g, h1, h2.belowAll hb⟩
theorem GrpAt.kn {w : World} {g gr gf P Q G : Nat} (h : GrpAt w g gr gf P Q G) : KnAt w (some ⟨g, 0, none⟩) P Q G (some ⟨gr, 0, none⟩) (some ⟨gf, 0, none⟩) := .inr ⟨g, rfl, h.row⟩
theorem ptr_grp : Tryz.prog.underlying 25 = some (.pointer (Tryz.prog.pointee 25)) := by kernel_rfl
theorem known_no (w : World) :
  Calls Tryz.prog 83 #[.pointer none] w fun e w' => e = .returned (.agg (gpC 0 0 0 none none)) ∧ Below w.heap.size w w' := by
 go_enter Tryz.func83, Tryz.ntmps83
 iterate 2 go_step
 refine rp ?_;refine pw_new (by rfl) 65 rfl _ zero_gp ?_;intro g2 z0 n0 r2 k;simp only [pv]
 have b2 : w.heap.size ≤ g2 := n0
 clear n0
 have sb := k_b k
 clear k;refine pw_nil ?_
 iterate 4 go_step
 refine rp ?_;refine p_m ?_;simp only [pv];refine p_v (.bool true) (exec_eql_nilp _ _ _ _ rfl none rfl rfl ptr_grp) (pw_nil ?_);simp only [pv]
 iterate 4 go_step
 refine rp ?_;refine p_v (.agg (gpC 0 0 0 none none)) (exec_build0 _ rfl _ built_gp0) ?_;simp only [pv];refine pw_put (by rfl) 65 _ _ rfl _ rfl r2 (gpC 0 0 0 none none) rfl (by exact size_gp) (by rfl) (gp_one _ _ _ _ _) ?_;clear r2;intro z2001 r2 k;simp only [Act.put];replace sb := kk sb k;clear k;refine pw_nil ?_
 go_wp2
 exact ret_rowd rfl _ rfl r2 _ Tryz.underlying65 (by exact size_gp) rfl ⟨rfl, sb⟩
theorem known_yes (g5 P Q G : Nat) (r f : Option Addr) (w : World) (r5 : Row w g5 (gpC P Q G r f) 65) :
  Calls Tryz.prog 83 #[.pointer (some ⟨g5, 0, none⟩)] w fun e w' => e = .returned (.agg (gpC P Q G r f)) ∧ Below w.heap.size w w' := by
 go_enter Tryz.func83, Tryz.ntmps83
 iterate 2 go_step
 refine rp ?_;refine pw_new (by rfl) 65 rfl _ zero_gp ?_;intro g2 z0 n0 r2 k;simp only [pv]
 have d5x2 := l_l r5.lt n0
 have b2 : w.heap.size ≤ g2 := n0
 clear n0;replace r5 := k.ro r5
 have sb := k_b k
 clear k;refine pw_nil ?_
 iterate 4 go_step
 refine rp ?_;refine p_m ?_;simp only [pv];refine p_v (.bool false) (exec_eql_nilp _ _ _ _ rfl (some ⟨g5, 0, none⟩) rfl rfl ptr_grp) (pw_nil ?_);simp only [pv]
 iterate 7 go_step
 refine rp ?_;refine p_m ?_;simp only [pv];refine p_v (.pointer (some ⟨g5, 0, none⟩)) (exec_nil _ rfl g5 0 rfl) ?_;simp only [pv];refine pw_loadm (by rfl) 65 _ rfl _ 0 rfl r5.r _ (part_all _) _ Tryz.underlying65 rfl size_gp ?_;simp only [pv];refine pw_put (by rfl) 65 _ _ rfl _ rfl r2 (gpC P Q G r f) rfl (by exact size_gp) (by rfl) (gp_one _ _ _ _ _) ?_;clear r2;intro z3003 r2 k;simp only [Act.put];replace r5 := k.ro r5;replace sb := kk sb k;clear k;refine pw_nil ?_
 go_wp2
 exact ret_rowd rfl _ rfl r2 _ Tryz.underlying65 (by exact size_gp) rfl ⟨rfl, sb⟩
theorem known_any (v : Option Addr) (P Q G : Nat) (r f : Option Addr) (w : World) (h : KnAt w v P Q G r f) :
  Calls Tryz.prog 83 #[.pointer v] w fun e w' => e = .returned (.agg (gpC P Q G r f)) ∧ Below w.heap.size w w' := by
 rcases h with ⟨rfl, rfl, rfl, rfl, rfl, rfl⟩ | ⟨g, rfl, hr⟩
 ·exact known_no w
 ·exact known_yes g P Q G r f w hr
theorem grpQ_any (v : Option Addr) (P Q G : Nat) (r f : Option Addr) (w : World) (h : KnAt w v P Q G r f) :
  Calls Tryz.prog 85 #[.pointer v] w fun e w' => e = .returned (.agg (natC Q)) ∧ Below w.heap.size w w' := by
 have hkn := fun w' (hb : Below w.heap.size w w') => known_any v P Q G r f w' (h.below hb)
 clear h
 go_enter Tryz.func85, Tryz.ntmps85
 iterate 2 go_step
 refine rp ?_;refine pw_new (by rfl) 45 rfl _ zero_nat ?_;intro g2 z0 n0 r2 k;simp only [pv]
 have b2 : w.heap.size ≤ g2 := n0
 clear n0
 have sb := k_b k
 clear k;refine pw_nil ?_
 iterate 3 go_step
 refine rp ?_;refine p_m ?_;simp only [pv];refine p_c 83 Tryz.func83 #[.pointer v] (hkn _ sb) ?_;intro z1001 k;simp only [pv];replace r2 := k.ro r2;replace sb := kk sb k;clear k;refine p_v (.agg (mdC P Q G)) (exec_fieldv _ _ _ rfl _ _ rfl (gp_made P Q G r f)) ?_;simp only [pv];refine p_v (.agg (natC Q)) (exec_fieldv _ _ _ rfl _ _ rfl (mdf_q P Q G)) ?_;simp only [pv];refine p_p r2 Q ?_;clear r2;intro z1004 r2 k;simp only [Act.put];replace sb := kk sb k;clear k;refine pw_nil ?_
 go_wp2
 exact ret_row rfl _ rfl r2 4 _ Tryz.underlying45 (by exact size_nat) rfl ⟨rfl, sb⟩
theorem grpField_any (v : Option Addr) (P Q G : Nat) (r f : Option Addr) (w : World) (h : KnAt w v P Q G r f) :
  Calls Tryz.prog 49 #[.pointer v] w fun e w' => e = .returned (.pointer f) ∧ Below w.heap.size w w' := by
 have hkn := fun w' (hb : Below w.heap.size w w') => known_any v P Q G r f w' (h.below hb)
 clear h
 go_enter Tryz.func49, Tryz.ntmps49
 have sb := Below.refl w.heap.size w
 iterate 2 go_step
 refine rp ?_;refine p_v (.pointer none) (fun _ => rfl) (pw_nil ?_);simp only [pv]
 iterate 3 go_step
 refine rp ?_;refine p_m ?_;simp only [pv];refine p_c 83 Tryz.func83 #[.pointer v] (hkn _ sb) ?_;intro z1001 k;simp only [pv];replace sb := kk sb k;clear k;refine p_v (.pointer f) (exec_fieldv _ _ _ rfl _ _ rfl (gp_field P Q G r f)) ?_;refine p_a (pw_nil ?_);simp only [pv]
 go_wp2
 go_ret
 exact ⟨rfl, sb⟩
theorem rQ_any (n c : Nat) (ab : Option Addr) (G : Nat) (N : Nat → Nat) (A : Nat → Int) (gb ob : Nat) (bcs : Array Value) (tb : TypeId) (w : World) (h2 : 2 ≤ n) (hn : n < 9223372036854775808) (hL : LinksAt w ab n N A gb ob bcs tb) :
  Calls Tryz.prog 25 #[.agg (paC ab n c G)] w fun e w' => e = .returned (.agg (natC (N (n - 2)))) ∧ Below w.heap.size w w' := by
 obtain h0 | ⟨rfl, rB, hat⟩ := hL.at'
 ·omega
 have h1 := hat (n - 2) (by omega)
 clear hL hat
 generalize N (n - 2) = P at *
 generalize A (n - 2) = zp at *
 go_enter Tryz.func25, Tryz.ntmps25
 iterate 2 go_step
 refine rp ?_;refine pw_boxr (by rfl) 47 _ rfl (_) rfl ?_;intro g1 z0 n0 r1 k;simp only [pv];clear n0
 have sb := k_b k
 clear k;refine pw_new (by rfl) 45 rfl _ zero_nat ?_;intro g2 z1 n0 r2 k;simp only [pv]
 have d1x2 := l_l r1.lt n0
 have b2 := Nat.le_trans sb.size n0
 clear n0;replace r1 := k.ro r1;replace sb := kk sb k;clear k;refine pw_nil ?_;replace rB := rB.belowAll sb
 iterate 4 go_step
 refine rp ?_;refine p_v (.pointer (some ⟨g1, 0, none⟩)) (exec_field 47 _ 0 rfl g1 0 rfl _ Tryz.underlying47 _ rfl 0 Tryz.sizeOf42) ?_;simp only [pv];refine p_d 0 r1.r (.slice (some ⟨gb, ob, none⟩) n c) rfl Tryz.isAgg42 ?_;simp only [pv];refine p_v (.int .i64 n) (n_l (some ⟨gb, ob, none⟩) n c sl_link) ?_;refine p_v (.bool false) (lt_f n 2) (pw_nil ?_);simp only [pv]
 iterate 7 go_step
 refine rp ?_;refine p_v (.pointer (some ⟨g1, 0, none⟩)) (exec_field 47 _ 0 rfl g1 0 rfl _ Tryz.underlying47 _ rfl 0 Tryz.sizeOf42) ?_;simp only [pv];refine p_d 0 r1.r (.slice (some ⟨gb, ob, none⟩) n c) rfl Tryz.isAgg42 ?_;simp only [pv];refine p_v (.pointer (some ⟨g1, 0, none⟩)) (exec_field 47 _ 0 rfl g1 0 rfl _ Tryz.underlying47 _ rfl 0 Tryz.sizeOf42) ?_;simp only [pv];refine p_d 0 r1.r (.slice (some ⟨gb, ob, none⟩) n c) rfl Tryz.isAgg42 ?_;simp only [pv];refine p_v (.int .i64 n) (n_l (some ⟨gb, ob, none⟩) n c sl_link) ?_;simp only [pv];refine p_v (.int .i64 ((n - 2 : Nat) : Int)) (exec_sub_in _ _ _ _ rfl n 2 rfl rfl (by omega) hn) ?_;simp only [pv];refine p_v (.pointer (some ⟨gb, ob + (n - 2) * 5, none⟩)) (exec_index_s 42 _ _ rfl gb ob n c rfl (n - 2) rfl (by omega) _ Tryz.underlying42 5 Tryz.sizeOf84) ?_;simp only [pv];refine p_v (.pointer (some ⟨gb, ob + (n - 2) * 5, none⟩)) (exec_field 84 _ 0 rfl gb (ob + (n - 2) * 5) rfl _ Tryz.underlying84 _ rfl 3 Tryz.sizeOf45) ?_;simp only [pv];refine pw_loadm (by rfl) 45 _ rfl _ (ob + (n - 2) * 5) rfl rB (natC P) (lk_part h1) _ Tryz.underlying45 rfl size_nat ?_;simp only [pv];refine p_p r2 P ?_;clear r2;intro z3009 r2 k;simp only [Act.put];replace r1 := k.ro r1;replace sb := kk sb k;clear k;refine pw_nil ?_
 go_wp2
 exact ret_row rfl _ rfl r2 4 _ Tryz.underlying45 (by exact size_nat) rfl ⟨rfl, sb⟩
theorem lit_lks {n : Nat} (vs : List (Nat × Value)) (c : Array Value) (k : Nat) (hk : k = 5) (h : Instr.fill (fun i => some (i * 5, 5)) ((Array.range (n * 5)).map ((Value.agg #[.int .u64 0, .int .u64 0, .int .u64 0, .int .u64 0, .int .i64 0]).cells[· % (Value.agg #[.int .u64 0, .int .u64 0, .int .u64 0, .int .u64 0, .int .i64 0]).cells.size]!)) vs = some c) :
  Instr.fill (fun i => some (i * k, k)) ((Array.range (n * k)).map ((Value.agg #[.int .u64 0, .int .u64 0, .int .u64 0, .int .u64 0, .int .i64 0]).cells[· % (Value.agg #[.int .u64 0, .int .u64 0, .int .u64 0, .int .u64 0, .int .i64 0]).cells.size]!)) vs = some c := by
 subst hk; exact h
theorem le_lits : Instr.fill (fun i => some (i * 5, 5)) ((Array.range (3 * 5)).map ((Value.agg #[.int .u64 0, .int .u64 0, .int .u64 0, .int .u64 0, .int .i64 0]).cells[· % (Value.agg #[.int .u64 0, .int .u64 0, .int .u64 0, .int .u64 0, .int .i64 0]).cells.size]!)) [(0, .agg (lkC 65521 0)), (1, .agg (lkC 1966023127 2)), (2, .agg (lkC 1055500680322183127 2))] = some (lksC 3 (lN leL) twoA) := by kernel_rfl
theorem rleast_any (w : World) :
  Calls Tryz.prog 15 #[] w fun e w' => ∃ g, e = .returned (.agg (paC (some ⟨g, 0, none⟩) 3 3 leG)) ∧ w.heap.size ≤ g ∧ Row w' g (lksC 3 (lN leL) twoA) 84 ∧ Below w.heap.size w w' := by
 obtain ⟨ie, hie, hz, hsz⟩ := info_lk'
 have hs1 : ¬ 3 * ie.size > 2 ^ 24 := by rw [hsz]; decide
 have hs2 : ¬ 3 * ie.size = 0 := by rw [hsz]; decide
 have hl := lit_lks _ _ ie.size hsz le_lits
 go_enter Tryz.func15, Tryz.ntmps15
 iterate 2 go_step
 refine rp ?_;refine pw_new (by rfl) 47 rfl _ zero_pa ?_;intro g0 z0 n0 r0 k;simp only [Act.put, List.setIfInBounds_toArray, List.set_cons_zero]
 have b0 : w.heap.size ≤ g0 := n0
 clear n0
 have sb := k_b k
 clear k;refine pw_nil ?_
 iterate 3 go_step
 refine rp ?_;refine p_v (.agg (natC 65521)) (exec_buildv _ _ rfl [(0, .int .u64 65521)] rfl _ (by kernel_rfl)) ?_;simp only [pv];refine p_v (.agg (lkC 65521 0)) (exec_link2 65521 0 rfl rfl rfl) ?_;simp only [pv];refine p_v (.agg (natC 1966023127)) (exec_buildv _ _ rfl [(0, .int .u64 1966023127)] rfl _ (by kernel_rfl)) ?_;simp only [pv];refine p_v (.agg (lkC 1966023127 2)) (exec_link2 1966023127 2 rfl rfl rfl) ?_;simp only [pv];refine p_v (.agg (natC 1055500680322183127)) (exec_buildv _ _ rfl [(0, .int .u64 1055500680322183127)] rfl _ (by kernel_rfl)) ?_;simp only [pv];refine p_v (.agg (lkC 1055500680322183127 2)) (exec_link2 1055500680322183127 2 rfl rfl rfl) ?_;simp only [pv];refine pw_litr (by rfl) 42 84 3 _ rfl (lksC 3 (lN leL) twoA) ie _ Tryz.underlying42 hie hz hs1 hs2 [(0, .agg (lkC 65521 0)), (1, .agg (lkC 1966023127 2)), (2, .agg (lkC 1055500680322183127 2))] rfl hl ?_;intro gT z1006 n0 rT k;simp only [pv]
 have d0xT := l_l r0.lt n0
 have bT := Nat.le_trans sb.size n0
 clear n0;replace r0 := k.ro r0;replace sb := kk sb k;clear k;refine p_v (.agg (natC 316543771439780984)) (exec_buildv _ _ rfl [(0, .int .u64 316543771439780984)] rfl _ (by kernel_rfl)) ?_;simp only [pv];refine p_v (.agg (paC (some ⟨gT, 0, none⟩) 3 3 leG)) (exec_buildv _ _ rfl [(0, .slice (some ⟨gT, 0, none⟩) 3 3), (1, .agg (natC leG))] rfl _ (built_pa _ _ _ _)) ?_;simp only [pv];refine pw_put (by rfl) 47 _ _ rfl _ rfl r0 (paC (some ⟨gT, 0, none⟩) 3 3 leG) rfl (by exact size_pa) (by rfl) (pa_one _ _ _ _) ?_;clear r0;intro z1009 r0 k;simp only [Act.put];replace rT := k.ro rT;replace sb := kk sb k;clear k;refine pw_nil ?_
 go_wp2
 exact ret_rowd rfl _ rfl r0 _ Tryz.underlying47 (by exact size_pa) rfl ⟨gT, rfl, bT, rT, sb⟩
theorem ot_lits : Instr.fill (fun i => some (i * 5, 5)) ((Array.range (3 * 5)).map ((Value.agg #[.int .u64 0, .int .u64 0, .int .u64 0, .int .u64 0, .int .i64 0]).cells[· % (Value.agg #[.int .u64 0, .int .u64 0, .int .u64 0, .int .u64 0, .int .i64 0]).cells.size]!)) [(0, .agg (lkC 64817 0)), (1, .agg (lkC 1815135269 2)), (2, .agg (lkC 487269091447081429 2))] = some (lksC 3 (lN otL) twoA) := by kernel_rfl
theorem rother_any (w : World) :
  Calls Tryz.prog 16 #[] w fun e w' => ∃ g, e = .returned (.agg (paC (some ⟨g, 0, none⟩) 3 3 otG)) ∧ w.heap.size ≤ g ∧ Row w' g (lksC 3 (lN otL) twoA) 84 ∧ Below w.heap.size w w' := by
 obtain ⟨ie, hie, hz, hsz⟩ := info_lk'
 have hs1 : ¬ 3 * ie.size > 2 ^ 24 := by rw [hsz]; decide
 have hs2 : ¬ 3 * ie.size = 0 := by rw [hsz]; decide
 have hl := lit_lks _ _ ie.size hsz ot_lits
 go_enter Tryz.func16, Tryz.ntmps16
 iterate 2 go_step
 refine rp ?_;refine pw_new (by rfl) 47 rfl _ zero_pa ?_;intro g0 z0 n0 r0 k;simp only [Act.put, List.setIfInBounds_toArray, List.set_cons_zero]
 have b0 : w.heap.size ≤ g0 := n0
 clear n0
 have sb := k_b k
 clear k;refine pw_nil ?_
 iterate 3 go_step
 refine rp ?_;refine p_v (.agg (natC 64817)) (exec_buildv _ _ rfl [(0, .int .u64 64817)] rfl _ (by kernel_rfl)) ?_;simp only [pv];refine p_v (.agg (lkC 64817 0)) (exec_link2 64817 0 rfl rfl rfl) ?_;simp only [pv];refine p_v (.agg (natC 1815135269)) (exec_buildv _ _ rfl [(0, .int .u64 1815135269)] rfl _ (by kernel_rfl)) ?_;simp only [pv];refine p_v (.agg (lkC 1815135269 2)) (exec_link2 1815135269 2 rfl rfl rfl) ?_;simp only [pv];refine p_v (.agg (natC 487269091447081429)) (exec_buildv _ _ rfl [(0, .int .u64 487269091447081429)] rfl _ (by kernel_rfl)) ?_;simp only [pv];refine p_v (.agg (lkC 487269091447081429 2)) (exec_link2 487269091447081429 2 rfl rfl rfl) ?_;simp only [pv];refine pw_litr (by rfl) 42 84 3 _ rfl (lksC 3 (lN otL) twoA) ie _ Tryz.underlying42 hie hz hs1 hs2 [(0, .agg (lkC 64817 0)), (1, .agg (lkC 1815135269 2)), (2, .agg (lkC 487269091447081429 2))] rfl hl ?_;intro gT z1006 n0 rT k;simp only [pv]
 have d0xT := l_l r0.lt n0
 have bT := Nat.le_trans sb.size n0
 clear n0;replace r0 := k.ro r0;replace sb := kk sb k;clear k;refine p_v (.agg (natC 54624333139524128)) (exec_buildv _ _ rfl [(0, .int .u64 54624333139524128)] rfl _ (by kernel_rfl)) ?_;simp only [pv];refine p_v (.agg (paC (some ⟨gT, 0, none⟩) 3 3 otG)) (exec_buildv _ _ rfl [(0, .slice (some ⟨gT, 0, none⟩) 3 3), (1, .agg (natC otG))] rfl _ (built_pa _ _ _ _)) ?_;simp only [pv];refine pw_put (by rfl) 47 _ _ rfl _ rfl r0 (paC (some ⟨gT, 0, none⟩) 3 3 otG) rfl (by exact size_pa) (by rfl) (pa_one _ _ _ _) ?_;clear r0;intro z1009 r0 k;simp only [Act.put];replace rT := k.ro rT;replace sb := kk sb k;clear k;refine pw_nil ?_
 go_wp2
 exact ret_rowd rfl _ rfl r0 _ Tryz.underlying47 (by exact size_pa) rfl ⟨gT, rfl, bT, rT, sb⟩
theorem gr_lits : Instr.fill (fun i => some (i * 5, 5)) ((Array.range (5 * 5)).map ((Value.agg #[.int .u64 0, .int .u64 0, .int .u64 0, .int .u64 0, .int .i64 0]).cells[· % (Value.agg #[.int .u64 0, .int .u64 0, .int .u64 0, .int .u64 0, .int .i64 0]).cells.size]!)) [(0, .agg (lkC 65519 0)), (1, .agg (lkC 1313918027 2)), (2, .agg (lkC 88175567203779761 2)), (3, .agg (lkC 6353719225633997551192976661815171 2)), (4, .agg (lkC 128868735840905246597005622286753383510486359307609845843856143183 2))] = some (lksC 5 (lN grL) twoA) := by kernel_rfl
theorem rgreat_any (w : World) :
  Calls Tryz.prog 17 #[] w fun e w' => ∃ g, e = .returned (.agg (paC (some ⟨g, 0, none⟩) 5 5 grG)) ∧ w.heap.size ≤ g ∧ Row w' g (lksC 5 (lN grL) twoA) 84 ∧ Below w.heap.size w w' := by
 obtain ⟨ie, hie, hz, hsz⟩ := info_lk'
 have hs1 : ¬ 5 * ie.size > 2 ^ 24 := by rw [hsz]; decide
 have hs2 : ¬ 5 * ie.size = 0 := by rw [hsz]; decide
 have hl := lit_lks _ _ ie.size hsz gr_lits
 go_enter Tryz.func17, Tryz.ntmps17
 iterate 2 go_step
 refine rp ?_;refine pw_new (by rfl) 47 rfl _ zero_pa ?_;intro g0 z0 n0 r0 k;simp only [Act.put, List.setIfInBounds_toArray, List.set_cons_zero]
 have b0 : w.heap.size ≤ g0 := n0
 clear n0
 have sb := k_b k
 clear k;refine pw_nil ?_
 iterate 3 go_step
 refine rp ?_;refine p_v (.agg (natC 65519)) (exec_buildv _ _ rfl [(0, .int .u64 65519)] rfl _ (by kernel_rfl)) ?_;simp only [pv];refine p_v (.agg (lkC 65519 0)) (exec_link2 65519 0 rfl rfl rfl) ?_;simp only [pv];refine p_v (.agg (natC 1313918027)) (exec_buildv _ _ rfl [(0, .int .u64 1313918027)] rfl _ (by kernel_rfl)) ?_;simp only [pv];refine p_v (.agg (lkC 1313918027 2)) (exec_link2 1313918027 2 rfl rfl rfl) ?_;simp only [pv];refine p_v (.agg (natC 88175567203779761)) (exec_buildv _ _ rfl [(0, .int .u64 88175567203779761)] rfl _ (by kernel_rfl)) ?_;simp only [pv];refine p_v (.agg (lkC 88175567203779761 2)) (exec_link2 88175567203779761 2 rfl rfl rfl) ?_;simp only [pv];refine p_v (.agg (natC 6353719225633997551192976661815171)) (exec_buildv _ _ rfl [(0, .int .u64 15752163429641756547), (1, .int .u64 344435809389764)] rfl _ (by kernel_rfl)) ?_;simp only [pv];refine p_v (.agg (lkC 6353719225633997551192976661815171 2)) (exec_link2 6353719225633997551192976661815171 2 rfl rfl rfl) ?_;simp only [pv];refine p_v (.agg (natC 128868735840905246597005622286753383510486359307609845843856143183)) (exec_buildv _ _ rfl [(0, .int .u64 3727879549075534671), (1, .int .u64 12844076830096575486), (2, .int .u64 1228573241546452547), (3, .int .u64 20529974)] rfl _ (by kernel_rfl)) ?_;simp only [pv];refine p_v (.agg (lkC 128868735840905246597005622286753383510486359307609845843856143183 2)) (exec_link2 128868735840905246597005622286753383510486359307609845843856143183 2 rfl rfl rfl) ?_;simp only [pv];refine pw_litr (by rfl) 42 84 5 _ rfl (lksC 5 (lN grL) twoA) ie _ Tryz.underlying42 hie hz hs1 hs2 [(0, .agg (lkC 65519 0)), (1, .agg (lkC 1313918027 2)), (2, .agg (lkC 88175567203779761 2)), (3, .agg (lkC 6353719225633997551192976661815171 2)), (4, .agg (lkC 128868735840905246597005622286753383510486359307609845843856143183 2))] rfl hl ?_;intro gT z1010 n0 rT k;simp only [pv]
 have d0xT := l_l r0.lt n0
 have bT := Nat.le_trans sb.size n0
 clear n0;replace r0 := k.ro r0;replace sb := kk sb k;clear k;refine p_v (.agg (natC 9151157341667469615800997130231454865425018181917904921479972729)) (exec_buildv _ _ rfl [(0, .int .u64 12280068205398558585), (1, .int .u64 6413536983304955349), (2, .int .u64 8741009603146644127), (3, .int .u64 1457863)] rfl _ (by kernel_rfl)) ?_;simp only [pv];refine p_v (.agg (paC (some ⟨gT, 0, none⟩) 5 5 grG)) (exec_buildv _ _ rfl [(0, .slice (some ⟨gT, 0, none⟩) 5 5), (1, .agg (natC grG))] rfl _ (built_pa _ _ _ _)) ?_;simp only [pv];refine pw_put (by rfl) 47 _ _ rfl _ rfl r0 (paC (some ⟨gT, 0, none⟩) 5 5 grG) rfl (by exact size_pa) (by rfl) (pa_one _ _ _ _) ?_;clear r0;intro z1013 r0 k;simp only [Act.put];replace rT := k.ro rT;replace sb := kk sb k;clear k;refine pw_nil ?_
 go_wp2
 exact ret_rowd rfl _ rfl r0 _ Tryz.underlying47 (by exact size_pa) rfl ⟨gT, rfl, bT, rT, sb⟩
def pk {α : Type} (m : Nat) (a b c : α) : α := if m = 0 then a else if m = 1 then b else c
theorem info_pax : (Tryz.prog.info? 47).map (fun i => (i.zero, i.size)) = some (some (.agg #[.slice none 0 0, .int .u64 0, .int .u64 0, .int .u64 0, .int .u64 0]), 5) := by kernel_rfl
theorem info_pa' : ∃ i, Tryz.prog.info? 47 = some i ∧ i.zero = some (Value.agg #[.slice none 0 0, .int .u64 0, .int .u64 0, .int .u64 0, .int .u64 0]) ∧ i.size = 5 := by
 cases hi : Tryz.prog.info? 47 with
 | none => have := info_pax; rw [hi] at this; cases this
 | some i =>
  have h := info_pax
  rw [hi] at h
  simp only [Option.map_some, Option.some.injEq, Prod.mk.injEq] at h
  exact ⟨i, rfl, h.1, h.2⟩
def pasC (x y z : Option Addr) (n m l X Y Z : Nat) : Array Value := #[.slice x n n, .int .u64 (lm X 0), .int .u64 (lm X 1), .int .u64 (lm X 2), .int .u64 (lm X 3), .slice y m m, .int .u64 (lm Y 0), .int .u64 (lm Y 1), .int .u64 (lm Y 2), .int .u64 (lm Y 3), .slice z l l, .int .u64 (lm Z 0), .int .u64 (lm Z 1), .int .u64 (lm Z 2), .int .u64 (lm Z 3)]
theorem lit_pas (x y z : Option Addr) (n m l X Y Z : Nat) (k : Nat) (hk : k = 5) : Instr.fill (fun i => some (i * k, k)) ((Array.range (3 * k)).map ((Value.agg #[.slice none 0 0, .int .u64 0, .int .u64 0, .int .u64 0, .int .u64 0]).cells[· % (Value.agg #[.slice none 0 0, .int .u64 0, .int .u64 0, .int .u64 0, .int .u64 0]).cells.size]!)) [(0, .agg (paC x n n X)), (1, .agg (paC y m m Y)), (2, .agg (paC z l l Z))] = some (pasC x y z n m l X Y Z) := by
 subst hk
 unfold paC pasC
 generalize lm X 0 = a0
 generalize lm X 1 = a1
 generalize lm X 2 = a2
 generalize lm X 3 = a3
 generalize lm Y 0 = b0
 generalize lm Y 1 = b1
 generalize lm Y 2 = b2
 generalize lm Y 3 = b3
 generalize lm Z 0 = c0
 generalize lm Z 1 = c1
 generalize lm Z 2 = c2
 generalize lm Z 3 = c3
 kernel_rfl
theorem list_five {c0 c1 c2 c3 c4 : Value} {cs : Array Value} {off : Nat} (h0 : cs[off]? = some c0) (h1 : cs[off + 1]? = some c1) (h2 : cs[off + 2]? = some c2) (h3 : cs[off + 3]? = some c3) (h4 : cs[off + 4]? = some c4) : ∀ j v, [c0, c1, c2, c3, c4][j]? = some v → cs[off + j]? = some v := by
 intro j v hv
 match j, hv with
 | 0, hv => rw [← hv]; exact h0
 | 1, hv => rw [← hv]; exact h1
 | 2, hv => rw [← hv]; exact h2
 | 3, hv => rw [← hv]; exact h3
 | 4, hv => rw [← hv]; exact h4
 | j + 5, hv => simp at hv
theorem pas_part (x y z n m l X Y Z : Nat) (k : Nat) (hk : k < 3) : ∀ j v, (paC (some ⟨pk k x y z, 0, none⟩) (pk k n m l) (pk k n m l) (pk k X Y Z)).toList[j]? = some v → (pasC (some ⟨x, 0, none⟩) (some ⟨y, 0, none⟩) (some ⟨z, 0, none⟩) n m l X Y Z)[0 + k * 5 + j]? = some v := by
 match k, hk with
 | 0, _ => exact list_five rfl rfl rfl rfl rfl
 | 1, _ => exact list_five rfl rfl rfl rfl rfl
 | 2, _ => exact list_five rfl rfl rfl rfl rfl
theorem pk_row {w : World} {x y z : Nat} {a b c : Array Value} {t : TypeId} (k : Nat) (h1 : Row w x a t) (h2 : Row w y b t) (h3 : Row w z c t) : Row w (pk k x y z) (pk k a b c) t := by
 unfold pk
 split
 ·exact h1
 ·split
  ·exact h2
  ·exact h3
def ly8 (x : Int) : Nat := (x % 256).toNat
theorem ly8_lt (x : Int) : ly8 x < 256 := by unfold ly8; omega
theorem and_ly8 (x : Int) : bits .and .i64 x 255 = ((ly8 x : Nat) : Int) := by
 show IntKind.i64.wrap ((BitVec.ofInt 64 x &&& BitVec.ofInt 64 255).toNat : Int) = _
 have h255 : (BitVec.ofInt 64 255).toNat = 2 ^ 8 - 1 := by decide
 rw [BitVec.toNat_and, h255, Nat.and_two_pow_sub_one_eq_mod, BitVec.toNat_ofInt]
 have e : (x % ((2 ^ 64 : Nat) : Int)).toNat % 2 ^ 8 = ly8 x := by
  unfold ly8
  omega
 rw [e]
 exact wrap_i64 _ (by have := ly8_lt x; omega)
theorem pk_gr (m : Nat) : grN (pk m 3 3 5) (lN (pk m leL otL grL)) twoA (pk m leG otG grG) = true ∧ (∀ i, i < pk m 3 3 5 → lN (pk m leL otL grL) i < 2 ^ 256) ∧ pk m leG otG grG < 2 ^ 256 ∧ 2 ≤ pk m 3 3 5 ∧ pk m 3 3 5 < 9223372036854775808 ∧ pk m (lksC 3 (lN leL) twoA) (lksC 3 (lN otL) twoA) (lksC 5 (lN grL) twoA) = lksC (pk m 3 3 5) (lN (pk m leL otL grL)) twoA := by
 unfold pk
 split
 ·exact ⟨least_is, le_lt, by decide, by decide, by decide, rfl⟩
 ·split
  ·exact ⟨other_is, ot_lt, by decide, by decide, by decide, rfl⟩
  ·exact ⟨great_is, gr_lt, by decide, by decide, by decide, rfl⟩
end Go.Proofs.YtdionnhelppliaaGreat
