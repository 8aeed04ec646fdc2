/- CommitSound: for every number, list of naturals and natural: in one of the three groups, of a list of 1 to 4, each of the seven shares holds, another natural in its place just if it is the same one, and a share under the next number just if that one is the same; no condition. -/
import Derived.Test.YtgdalihjpemjiaaGreatCO
import Derived.Test.YtgdalihjpemjiaaGreatGW
import Derived.Test.YtgdalihjpemjiaaGreatGU
set_option maxRecDepth 100000
set_option maxHeartbeats 2000000
namespace Go.Proofs.YtgdalihjpemjiaaGreat
open Go.ChangeShapes Go.WideShapes Go.ChangeAt Go.RowKit
namespace commitSoundP
set_option linter.unusedVariables false
set_option linter.unusedSectionVars false
theorem und_bool : Tryz.prog.underlying 4 = some .bool := by kernel_rfl
theorem core0 (a0 : Int) (n c N : Nat) (ab : Option Addr) (w : World) (h : n < 1 ∨ 4 < n) :
  Calls Tryz.prog 5 #[.int .i64 a0, .slice ab n c, .agg (natC N)] w fun e w' => e = .returned (.bool true) ∧ Below w.heap.size w w' := by
 have haw := awake14_any
 go_enter Tryz.func5, Tryz.ntmps5
 have sb := sbmk w
 iterate 2 go_step
 refine rp ?_
 refine pw_boxr (by rfl) 40 _ rfl (natC N) rfl ?_
 intro g5 z0 n0 r5 k
 simp only [pv]
 clear n0
 replace sb := kk sb k
 clear k
 refine p_v (.bool false) (fun _ => rfl) ?_
 simp only [pv]
 refine pw_nil ?_
 by_cases h1 : n < 1
 ·iterate 4 go_step
  refine rp ?_
  refine p_m ?_
  simp only [pv]
  refine p_v (.int .i64 n) (exec_len_s 22 _ rfl (ab) (n) (c) rfl sl_natsX) ?_
  simp only [pv]
  refine p_v (.bool true) (exec_lt_b _ _ _ _ rfl n 1 rfl rfl true (decide_eq_true (by omega))) ?_
  refine p_m ?_
  simp only [pv]
  refine p_s ?_
  simp only [pv]
  refine p_s ?_
  simp only [pv]
  refine p_s ?_
  simp only [pv]
  refine pw_pick (by rfl) true (v := .bool true) rfl rfl rfl ?_
  simp only [pv]
  refine pw_nil ?_
  iterate 4 go_step
  refine rp ?_
  refine pw_callB (by rfl) 9 _ _ rfl Tryz.func9 (by kernel_rfl) #[] rfl _ (haw _) ?_
  intro z2000 k
  simp only [pv]
  replace sb := kk sb k
  clear k
  refine p_a ?_
  simp only [pv]
  refine pw_nil ?_
  go_wp2
  go_ret
  exact ⟨rfl, sb⟩
 ·iterate 4 go_step
  refine rp ?_
  refine p_m ?_
  simp only [pv]
  refine p_v (.int .i64 n) (exec_len_s 22 _ rfl (ab) (n) (c) rfl sl_natsX) ?_
  simp only [pv]
  refine p_v (.bool false) (exec_lt_b _ _ _ _ rfl n 1 rfl rfl false (decide_eq_false (by omega))) ?_
  refine p_m ?_
  refine p_m ?_
  simp only [pv]
  refine p_v (.int .i64 n) (exec_len_s 22 _ rfl (ab) (n) (c) rfl sl_natsX) ?_
  simp only [pv]
  refine p_v (.bool true) (exec_gt_i _ _ _ _ rfl n 4 rfl rfl true (decide_eq_true (by omega))) ?_
  simp only [pv]
  refine pw_pick (by rfl) false (v := .bool true) rfl rfl rfl ?_
  simp only [pv]
  refine pw_nil ?_
  iterate 4 go_step
  refine rp ?_
  refine pw_callB (by rfl) 9 _ _ rfl Tryz.func9 (by kernel_rfl) #[] rfl _ (haw _) ?_
  intro z2000 k
  simp only [pv]
  replace sb := kk sb k
  clear k
  refine p_a ?_
  simp only [pv]
  refine pw_nil ?_
  go_wp2
  go_ret
  exact ⟨rfl, sb⟩
theorem core1 (a0 : Int) (m0 mm GG PP QQ n0 n1 n2 G0 G1 G2 : Nat) (L0 L1 L2 : Array Value) (n c N : Nat) (ab : Option Addr) (CF YY : Nat → Nat) (b1 b2 : Nat → Bool) (w : World) (hm0 : bits .and .i64 a0 255 = (m0 : Int)) (hmm : m0 % 3 = mm) (hn : n ≤ 4) (hn1 : 1 ≤ n)
  (he1 : ∀ k, decide (N % 2 ^ 256 = YY k % 2 ^ 256) = b1 k) (he2 : ∀ k, decide (YY k % 2 ^ 256 = YY ((k + 1) % 7) % 2 ^ 256) = b2 k)
  (hto : ∀ g gr gf w', Below w.heap.size w w' → GrpAt w' g gr gf PP QQ GG → Calls Tryz.prog 13 #[.pointer (some ⟨g, 0, none⟩), .slice ab n c, .int .i64 4] w' fun e w2 => ∃ gC, e = .returned (.tuple #[.slice (some ⟨gC, 0, none⟩) 4 4, .int .i64 0]) ∧ w'.heap.size ≤ gC ∧ Row w2 gC (nsC 4 CF) 40 ∧ Below w'.heap.size w' w2)
  (hde : ∀ g gr gf w', Below w.heap.size w w' → GrpAt w' g gr gf PP QQ GG → Calls Tryz.prog 27 #[.pointer (some ⟨g, 0, none⟩), .slice ab n c, .int .i64 7] w' fun e w2 => ∃ gL, e = .returned (.tuple #[.slice (some ⟨gL, 0, none⟩) 7 7, .int .i64 0]) ∧ w'.heap.size ≤ gL ∧ Row w2 gL (esC 5 7 (fun k => shC ((k + 1 : Nat) : Int) (YY k))) 48 ∧ Below w'.heap.size w' w2)
  (hh1 : ∀ k, k < 7 → ∀ w' g gr gf gC, GrpAt w' g gr gf PP QQ GG → Row w' gC (nsC 4 CF) 40 → Calls Tryz.prog 21 #[.pointer (some ⟨g, 0, none⟩), .slice (some ⟨gC, 0, none⟩) 4 4, .agg (shC ((k + 1 : Nat) : Int) (YY k))] w' fun e w2 => e = .returned (.bool true) ∧ Below w'.heap.size w' w2)
  (hh2 : ∀ k, k < 7 → ∀ w' g gr gf gC, GrpAt w' g gr gf PP QQ GG → Row w' gC (nsC 4 CF) 40 → Calls Tryz.prog 21 #[.pointer (some ⟨g, 0, none⟩), .slice (some ⟨gC, 0, none⟩) 4 4, .agg (shC ((k + 1 : Nat) : Int) N)] w' fun e w2 => e = .returned (.bool (b1 k)) ∧ Below w'.heap.size w' w2)
  (hh3 : ∀ k, k < 7 → ∀ w' g gr gf gC, GrpAt w' g gr gf PP QQ GG → Row w' gC (nsC 4 CF) 40 → Calls Tryz.prog 21 #[.pointer (some ⟨g, 0, none⟩), .slice (some ⟨gC, 0, none⟩) 4 4, .agg (shC (((k + 1) % 7 + 1 : Nat) : Int) (YY k))] w' fun e w2 => e = .returned (.bool (b2 k)) ∧ Below w'.heap.size w' w2)
  (hA0 : ∀ w', Calls Tryz.prog 24 #[] w' fun e w2 => ∃ g, e = .returned (.agg (paC (some ⟨g, 0, none⟩) n0 n0 G0)) ∧ w'.heap.size ≤ g ∧ Row w2 g L0 98 ∧ Below w'.heap.size w' w2)
  (hA1 : ∀ w', Calls Tryz.prog 25 #[] w' fun e w2 => ∃ g, e = .returned (.agg (paC (some ⟨g, 0, none⟩) n1 n1 G1)) ∧ w'.heap.size ≤ g ∧ Row w2 g L1 98 ∧ Below w'.heap.size w' w2)
  (hA2 : ∀ w', Calls Tryz.prog 26 #[] w' fun e w2 => ∃ g, e = .returned (.agg (paC (some ⟨g, 0, none⟩) n2 n2 G2)) ∧ w'.heap.size ≤ g ∧ Row w2 g L2 98 ∧ Below w'.heap.size w' w2)
  (hnw : ∀ w' x, Row w' x (pk mm L0 L1 L2) 98 → Calls Tryz.prog 23 #[.agg (paC (some ⟨x, 0, none⟩) (pk mm n0 n1 n2) (pk mm n0 n1 n2) (pk mm G0 G1 G2))] w' fun e w2 => ∃ g gr gf, e = .returned (.tuple #[.pointer (some ⟨g, 0, none⟩), .int .i64 0]) ∧ GrpAt w2 g gr gf PP QQ GG ∧ Below w'.heap.size w' w2) :
  Calls Tryz.prog 5 #[.int .i64 a0, .slice ab n c, .agg (natC N)] w fun e w' => e = .returned (.bool true) ∧ Below w.heap.size w w' := by
 have haw := awake14_any
 have HSZ : Hid (∀ k : Nat, (shC ((k + 1 : Nat) : Int) (YY k)).size = 5) := fun k => rfl
 obtain ⟨ip, hip, hzp, hszp⟩ := info_pa'
 have hp1 : ¬ 3 * ip.size > 2 ^ 24 := by rw [hszp]; decide
 have hp2 : ¬ 3 * ip.size = 0 := by rw [hszp]; decide
 have hlp := fun x y z n m l X Y Z => lit_pas x y z n m l X Y Z ip.size hszp
 have hMM : Hid (m0 % 3 = mm) := hmm
 have hm3 : mm < 3 := by rw [← hmm]; exact Nat.mod_lt _ (by decide)
 clear hmm hszp
 go_enter Tryz.func5, Tryz.ntmps5
 have sb := sbmk w
 iterate 2 go_step
 refine rp ?_
 refine pw_boxr (by rfl) 40 _ rfl (natC N) rfl ?_
 intro g5 z0 n0 r5 k
 simp only [pv]
 clear n0
 replace sb := kk sb k
 clear k
 refine p_v (.bool false) (fun _ => rfl) ?_
 simp only [pv]
 refine pw_nil ?_
 iterate 4 go_step
 refine rp ?_
 refine p_m ?_
 simp only [pv]
 refine p_v (.int .i64 n) (exec_len_s 22 _ rfl (ab) (n) (c) rfl sl_natsX) ?_
 simp only [pv]
 refine p_v (.bool false) (exec_lt_b _ _ _ _ rfl n 1 rfl rfl false (decide_eq_false (by omega))) ?_
 refine p_m ?_
 refine p_m ?_
 simp only [pv]
 refine p_v (.int .i64 n) (exec_len_s 22 _ rfl (ab) (n) (c) rfl sl_natsX) ?_
 simp only [pv]
 refine p_v (.bool false) (exec_gt_i _ _ _ _ rfl n 4 rfl rfl false (decide_eq_false (by omega))) ?_
 simp only [pv]
 refine pw_pick (by rfl) false (v := .bool false) rfl rfl rfl ?_
 simp only [pv]
 refine pw_nil ?_
 iterate 7 go_step
 refine rp ?_
 refine pw_callE (by rfl) 24 _ _ rfl Tryz.func24 (by kernel_rfl) #[] rfl (hA0 _) ?_
 rintro _ z3000 ⟨gU, rfl, nU, rU, hb⟩
 refine ⟨_, rfl, ?_⟩
 simp only [pv]
 clear nU
 have k := Kept.ofBelow hb
 clear hb
 replace r5 := k.ro r5
 replace sb := kk sb k
 clear k
 refine pw_callE (by rfl) 25 _ _ rfl Tryz.func25 (by kernel_rfl) #[] rfl (hA1 _) ?_
 rintro _ z3001 ⟨gV, rfl, nV, rV, hb⟩
 refine ⟨_, rfl, ?_⟩
 simp only [pv]
 clear nV
 have k := Kept.ofBelow hb
 clear hb
 replace r5 := k.ro r5
 replace rU := k.ro rU
 replace sb := kk sb k
 clear k
 refine pw_callE (by rfl) 26 _ _ rfl Tryz.func26 (by kernel_rfl) #[] rfl (hA2 _) ?_
 rintro _ z3002 ⟨gW, rfl, nW, rW, hb⟩
 refine ⟨_, rfl, ?_⟩
 simp only [pv]
 clear nW
 have k := Kept.ofBelow hb
 clear hb
 replace r5 := k.ro r5
 replace rU := k.ro rU
 replace rV := k.ro rV
 replace sb := kk sb k
 clear k
 refine pw_litr (by rfl) 58 56 3 _ rfl (pasC (some ⟨gU, 0, none⟩) (some ⟨gV, 0, none⟩) (some ⟨gW, 0, none⟩) n0 n1 n2 G0 G1 G2) ip _ Tryz.underlying58 hip hzp hp1 hp2 [(0, .agg (paC (some ⟨gU, 0, none⟩) n0 n0 G0)), (1, .agg (paC (some ⟨gV, 0, none⟩) n1 n1 G1)), (2, .agg (paC (some ⟨gW, 0, none⟩) n2 n2 G2))] rfl (hlp _ _ _ _ _ _ _ _ _) ?_
 intro gT z3003 n0 rT k
 simp only [pv]
 clear n0
 replace r5 := k.ro r5
 replace rU := k.ro rU
 replace rV := k.ro rV
 replace rW := k.ro rW
 replace sb := kk sb k
 clear k
 refine p_m ?_
 simp only [pv]
 refine p_v (.int .i64 (m0 : Nat)) (fun w' => (exec_bits_i .and _ _ _ _ (.inl rfl) rfl a0 255 rfl rfl w').trans (by rw [hm0])) ?_
 simp only [pv]
 refine p_v (.int .i64 (mm : Nat)) (fun w' => (exec_rem_i _ _ _ _ rfl m0 3 rfl rfl (by decide) w').trans (by rw [hMM.out])) ?_
 simp only [pv]
 refine p_v (.pointer (some ⟨gT, 0 + mm * 5, none⟩)) (exec_index_s 58 _ _ rfl gT 0 3 3 rfl mm rfl hm3 _ Tryz.underlying58 5 Tryz.sizeOf56) ?_
 simp only [pv]
 refine pw_loadm (by rfl) 56 _ rfl _ (0 + mm * 5) rfl rT.r (paC (some ⟨pk mm gU gV gW, 0, none⟩) (pk mm n0 n1 n2) (pk mm n0 n1 n2) (pk mm G0 G1 G2)) (pas_part gU gV gW n0 n1 n2 G0 G1 G2 mm hm3) _ Tryz.underlying56 rfl size_pa ?_
 simp only [pv]
 refine pw_callE (by rfl) 23 _ _ rfl Tryz.func23 (by kernel_rfl) #[.agg (paC (some ⟨pk mm gU gV gW, 0, none⟩) (pk mm n0 n1 n2) (pk mm n0 n1 n2) (pk mm G0 G1 G2))] rfl (hnw _ _ (pk_row mm rU rV rW)) ?_
 rintro _ z3009 ⟨g, gr, gf, rfl, ⟨rG, rR, rF⟩, hb⟩
 refine ⟨_, rfl, ?_⟩
 simp only [pv]
 have k := Kept.ofBelow hb
 clear hb
 replace r5 := k.ro r5
 replace rU := k.ro rU
 replace rV := k.ro rV
 replace rW := k.ro rW
 replace rT := k.ro rT
 replace sb := kk sb k
 clear k
 refine p_m ?_
 refine p_e ?_
 refine p_e ?_
 refine p_a ?_
 refine p_a ?_
 simp only [pv]
 refine pw_nil ?_
 clear rU rV rW rT hA0 hA1 hA2 hnw hlp hip hzp hp1 hp2
 iterate 3 go_step
 refine rp ?_
 refine p_m ?_
 refine p_m ?_
 simp only [pv]
 refine pw_callE (by rfl) 13 _ _ rfl Tryz.func13 (by kernel_rfl) #[.pointer (some ⟨g, 0, none⟩), .slice ab n c, .int .i64 4] rfl (hto g gr gf _ sb (⟨rG, rR, rF⟩ : GrpAt _ g gr gf PP QQ GG)) ?_
 rintro _ z4002 ⟨gC, rfl, nC, rC, hb⟩
 refine ⟨_, rfl, ?_⟩
 simp only [pv]
 clear nC
 have k := Kept.ofBelow hb
 clear hb
 replace r5 := k.ro r5
 replace rG := k.ro rG
 replace rR := k.ro rR
 replace rF := k.ro rF
 replace sb := kk sb k
 clear k
 refine p_m ?_
 refine p_e ?_
 refine p_e ?_
 refine p_a ?_
 refine p_a ?_
 simp only [pv]
 refine pw_nil ?_
 clear hto
 iterate 3 go_step
 refine rp ?_
 refine p_m ?_
 refine p_m ?_
 simp only [pv]
 refine pw_callE (by rfl) 27 _ _ rfl Tryz.func27 (by kernel_rfl) #[.pointer (some ⟨g, 0, none⟩), .slice ab n c, .int .i64 7] rfl (hde g gr gf _ sb (⟨rG, rR, rF⟩ : GrpAt _ g gr gf PP QQ GG)) ?_
 rintro _ z5002 ⟨gL, rfl, nL, rL, hb⟩
 refine ⟨_, rfl, ?_⟩
 simp only [pv]
 clear nL
 have k := Kept.ofBelow hb
 clear hb
 replace r5 := k.ro r5
 replace rG := k.ro rG
 replace rR := k.ro rR
 replace rF := k.ro rF
 replace rC := k.ro rC
 replace sb := kk sb k
 clear k
 refine p_m ?_
 refine p_e ?_
 refine p_e ?_
 refine p_a ?_
 refine p_a ?_
 simp only [pv]
 refine pw_nil ?_
 clear hde
 iterate 4 go_step
 refine rp ?_
 refine p_m ?_
 simp only [pv]
 refine p_v (.bool false) (exec_neq_k .i64 _ _ _ _ rfl 0 0 rfl rfl false rfl) ?_
 refine p_m ?_
 refine p_m ?_
 simp only [pv]
 refine p_v (.bool false) (exec_neq_k .i64 _ _ _ _ rfl 0 0 rfl rfl false rfl) ?_
 simp only [pv]
 refine pw_pick (by rfl) false (v := .bool false) rfl rfl rfl ?_
 refine p_m ?_
 refine p_m ?_
 simp only [pv]
 refine p_v (.bool false) (exec_neq_k .i64 _ _ _ _ rfl 0 0 rfl rfl false rfl) ?_
 simp only [pv]
 refine pw_pick (by rfl) false (v := .bool false) rfl rfl rfl ?_
 simp only [pv]
 refine pw_nil ?_
 iterate 8 go_step
 refine rp ?_
 refine p_v (.int .i64 0) (fun _ => rfl) ?_
 simp only [pv]
 refine pw_nil ?_
 go_wp2_with fail
 go_loopg [13] 7 (fun y s13 wr => ∃ k : Nat, k + y = 7 ∧ s13 = .int .i64 k ∧ Row wr g5 (natC N) 40 ∧ GrpAt wr g gr gf PP QQ GG ∧ Row wr gC (nsC 4 CF) 40 ∧ Row wr gL (esC 5 7 (fun k => shC ((k + 1 : Nat) : Int) (YY k))) 48 ∧ Below w.heap.size w wr)
 case atStart => exact ⟨0, by omega, rfl, r5, ⟨rG, rR, rF⟩, rC, rL, sb⟩
 case round =>
  clear r5 rG rR rF rC rL sb
  obtain ⟨k, hk, rfl, r5, ⟨rG, rR, rF⟩, rC, rL, sb⟩ := hrel
  cases gk with
  | zero =>
   obtain rfl : k = 7 := by omega
   clear hk hh1 hh2 hh3
   iterate 2 go_step
   refine rp ?_
   refine p_m ?_
   refine p_m ?_
   simp only [pv]
   refine p_v (.int .i64 7) (exec_len_s 59 _ rfl (some ⟨gL, 0, none⟩) (7) (7) rfl sl_shs) ?_
   simp only [pv]
   refine p_v (.bool false) (exec_lt_b _ _ _ _ rfl 7 7 rfl rfl false (decide_eq_false (Int.lt_irrefl _))) ?_
   simp only [pv]
   refine pw_nil ?_
   iterate 7 go_step
   refine rp ?_
   refine pw_callB (by rfl) 9 _ _ rfl Tryz.func9 (by kernel_rfl) #[] rfl _ (haw _) ?_
   intro z13000 k
   simp only [pv]
   replace sb := kk sb k
   clear k
   refine p_a ?_
   simp only [pv]
   refine pw_nil ?_
   go_wp2
   go_ret
   exact ⟨rfl, sb⟩
  | succ y =>
   have hlt : k < 7 := by omega
   have hl2 : (k + 1) % 7 < 7 := Nat.mod_lt _ (by decide)
   have hh1k := hh1 k hlt
   have hh2k := hh2 k hlt
   have hh3k := hh3 k hlt
   have he1k := he1 k
   have he2k := he2 k
   have hpt := esC_part HSZ.out k hlt (0 + k * 5) (by omega)
   have hpt2 := esC_part HSZ.out ((k + 1) % 7) hl2 (0 + (k + 1) % 7 * 5) (by omega)
   clear hh1 hh2 hh3 he1 he2 haw
   generalize b1 k = B1 at *
   generalize b2 k = B2 at *
   iterate 2 go_step
   refine rp ?_
   refine p_m ?_
   refine p_m ?_
   simp only [pv]
   refine p_v (.int .i64 7) (exec_len_s 59 _ rfl (some ⟨gL, 0, none⟩) (7) (7) rfl sl_shs) ?_
   simp only [pv]
   refine p_v (.bool true) (exec_lt_b _ _ _ _ rfl k 7 rfl rfl true (decide_eq_true (by omega))) ?_
   simp only [pv]
   refine pw_nil ?_
   iterate 9 go_step
   refine wp_region_qw (by kernel_rfl) (by kernel_rfl) ?_
   refine q_m ?_
   refine q_m ?_
   refine q_m ?_
   refine q_m ?_
   simp only [pv]
   refine q_v (.pointer (some ⟨gL, 0 + k * 5, none⟩)) ((exec_index_s 59 _ _ rfl gL 0 (7) (7) rfl (k) rfl (hlt) _ Tryz.underlying59 5 size_sh5)) ?_
   simp only [pv]
   refine qw_loadm (by rfl) 48 _ rfl _ (0 + k * 5) rfl rL (shC ((k + 1 : Nat) : Int) (YY k)) hpt _ Tryz.underlying48 rfl size_sh ?_
   simp only [pv]
   refine qw_callK (by rfl) 21 _ _ rfl Tryz.func21 (by kernel_rfl) #[.pointer (some ⟨g, 0, none⟩), .slice (some ⟨gC, 0, none⟩) 4 4, .agg (shC ((k + 1 : Nat) : Int) (YY k))] rfl _ (fun w' hb => hh1k w' g gr gf gC ⟨rG.belowAll hb, rR.belowAll hb, rF.belowAll hb⟩ (rC.belowAll hb)) ?_
   simp only [pv]
   refine q_v (.bool false) (exec_not _ _ rfl true rfl) ?_
   refine q_m ?_
   refine q_m ?_
   refine q_m ?_
   refine q_m ?_
   simp only [pv]
   refine q_m ?_
   simp only [pv]
   refine q_v (.pointer (some ⟨gL, 0 + k * 5, none⟩)) ((exec_index_s 59 _ _ rfl gL 0 (7) (7) rfl (k) rfl (hlt) _ Tryz.underlying59 5 size_sh5)) ?_
   simp only [pv]
   refine q_v (.pointer (some ⟨gL, 0 + k * 5, none⟩)) (exec_field 48 _ 0 rfl gL (0 + k * 5) rfl _ Tryz.underlying48 _ rfl 0 Tryz.sizeOf3) ?_
   simp only [pv]
   refine qw_loadc (by rfl) 3 _ rfl _ (0 + k * 5) rfl rL (.int .i64 ((k + 1 : Nat) : Int)) (shp_i hpt) Tryz.isAgg3 ?_
   simp only [pv]
   refine qw_load (by rfl) 40 _ rfl _ rfl r5 4 _ Tryz.underlying40 size_nat ?_
   simp only [pv]
   refine q_v (.agg (shC ((k + 1 : Nat) : Int) N)) (exec_buildv _ [(0, .tmp 79), (1, .tmp 80)] rfl [(0, .int .i64 ((k + 1 : Nat) : Int)), (1, .agg (natC N))] rfl (shC ((k + 1 : Nat) : Int) N) (built_sh _ _)) ?_
   simp only [pv]
   refine qw_callK (by rfl) 21 _ _ rfl Tryz.func21 (by kernel_rfl) #[.pointer (some ⟨g, 0, none⟩), .slice (some ⟨gC, 0, none⟩) 4 4, .agg (shC ((k + 1 : Nat) : Int) N)] rfl _ (fun w' hb => hh2k w' g gr gf gC ⟨rG.belowAll hb, rR.belowAll hb, rF.belowAll hb⟩ (rC.belowAll hb)) ?_
   simp only [pv]
   refine qw_load (by rfl) 40 _ rfl _ rfl r5 4 _ Tryz.underlying40 size_nat ?_
   refine q_m ?_
   refine q_m ?_
   simp only [pv]
   refine q_v (.pointer (some ⟨gL, 0 + k * 5, none⟩)) ((exec_index_s 59 _ _ rfl gL 0 (7) (7) rfl (k) rfl (hlt) _ Tryz.underlying59 5 size_sh5)) ?_
   simp only [pv]
   refine q_v (.pointer (some ⟨gL, 0 + k * 5 + 1, none⟩)) (exec_field 48 _ 1 rfl gL (0 + k * 5) rfl _ Tryz.underlying48 _ rfl 3 Tryz.sizeOf40) ?_
   simp only [pv]
   refine qw_loadm (by rfl) 40 _ rfl _ (0 + k * 5 + 1) rfl rL (natC (YY k)) (shp_y hpt) _ Tryz.underlying40 rfl size_nat ?_
   simp only [pv]
   refine q_v (.bool B1) (fun w' => (exec_eql_nat _ _ _ rfl N (YY k) rfl rfl w').trans (by rw [he1k])) ?_
   simp only [pv]
   refine q_v (.bool false) (y_neB _ _ _ _ rfl B1 B1 rfl rfl und_bool false (by simp)) ?_
   simp only [pv]
   refine qw_pick false (v := .bool false) (by rfl) rfl rfl rfl ?_
   refine q_m ?_
   refine q_m ?_
   refine q_m ?_
   refine q_m ?_
   simp only [pv]
   refine q_m ?_
   simp only [pv]
   refine q_v (.pointer (some ⟨gL, 0 + k * 5, none⟩)) ((exec_index_s 59 _ _ rfl gL 0 (7) (7) rfl (k) rfl (hlt) _ Tryz.underlying59 5 size_sh5)) ?_
   simp only [pv]
   refine q_v (.pointer (some ⟨gL, 0 + k * 5, none⟩)) (exec_field 48 _ 0 rfl gL (0 + k * 5) rfl _ Tryz.underlying48 _ rfl 0 Tryz.sizeOf3) ?_
   simp only [pv]
   refine qw_loadc (by rfl) 3 _ rfl _ (0 + k * 5) rfl rL (.int .i64 ((k + 1 : Nat) : Int)) (shp_i hpt) Tryz.isAgg3 ?_
   simp only [pv]
   refine q_v (.int .i64 (((k + 1) % 7 : Nat) : Int)) (exec_rem_i _ _ _ _ rfl (k + 1) 7 rfl rfl (by decide)) ?_
   simp only [pv]
   refine q_v (.int .i64 (((k + 1) % 7 + 1 : Nat) : Int)) (exec_add_in _ _ _ _ rfl ((k + 1) % 7) 1 rfl rfl (by omega)) ?_
   refine q_m ?_
   refine q_m ?_
   simp only [pv]
   refine q_v (.pointer (some ⟨gL, 0 + k * 5, none⟩)) ((exec_index_s 59 _ _ rfl gL 0 (7) (7) rfl (k) rfl (hlt) _ Tryz.underlying59 5 size_sh5)) ?_
   simp only [pv]
   refine q_v (.pointer (some ⟨gL, 0 + k * 5 + 1, none⟩)) (exec_field 48 _ 1 rfl gL (0 + k * 5) rfl _ Tryz.underlying48 _ rfl 3 Tryz.sizeOf40) ?_
   simp only [pv]
   refine qw_loadm (by rfl) 40 _ rfl _ (0 + k * 5 + 1) rfl rL (natC (YY k)) (shp_y hpt) _ Tryz.underlying40 rfl size_nat ?_
   simp only [pv]
   refine q_v (.agg (shC (((k + 1) % 7 + 1 : Nat) : Int) (YY k))) (exec_buildv _ [(0, .tmp 101), (1, .tmp 106)] rfl [(0, .int .i64 (((k + 1) % 7 + 1 : Nat) : Int)), (1, .agg (natC (YY k)))] rfl (shC (((k + 1) % 7 + 1 : Nat) : Int) (YY k)) (built_sh _ _)) ?_
   simp only [pv]
   refine qw_callK (by rfl) 21 _ _ rfl Tryz.func21 (by kernel_rfl) #[.pointer (some ⟨g, 0, none⟩), .slice (some ⟨gC, 0, none⟩) 4 4, .agg (shC (((k + 1) % 7 + 1 : Nat) : Int) (YY k))] rfl _ (fun w' hb => hh3k w' g gr gf gC ⟨rG.belowAll hb, rR.belowAll hb, rF.belowAll hb⟩ (rC.belowAll hb)) ?_
   refine q_m ?_
   refine q_m ?_
   simp only [pv]
   refine q_v (.pointer (some ⟨gL, 0 + k * 5, none⟩)) ((exec_index_s 59 _ _ rfl gL 0 (7) (7) rfl (k) rfl (hlt) _ Tryz.underlying59 5 size_sh5)) ?_
   simp only [pv]
   refine q_v (.pointer (some ⟨gL, 0 + k * 5 + 1, none⟩)) (exec_field 48 _ 1 rfl gL (0 + k * 5) rfl _ Tryz.underlying48 _ rfl 3 Tryz.sizeOf40) ?_
   simp only [pv]
   refine qw_loadm (by rfl) 40 _ rfl _ (0 + k * 5 + 1) rfl rL (natC (YY k)) (shp_y hpt) _ Tryz.underlying40 rfl size_nat ?_
   refine q_m ?_
   refine q_m ?_
   refine q_m ?_
   simp only [pv]
   refine q_v (.pointer (some ⟨gL, 0 + k * 5, none⟩)) ((exec_index_s 59 _ _ rfl gL 0 (7) (7) rfl (k) rfl (hlt) _ Tryz.underlying59 5 size_sh5)) ?_
   simp only [pv]
   refine q_v (.pointer (some ⟨gL, 0 + k * 5, none⟩)) (exec_field 48 _ 0 rfl gL (0 + k * 5) rfl _ Tryz.underlying48 _ rfl 0 Tryz.sizeOf3) ?_
   simp only [pv]
   refine qw_loadc (by rfl) 3 _ rfl _ (0 + k * 5) rfl rL (.int .i64 ((k + 1 : Nat) : Int)) (shp_i hpt) Tryz.isAgg3 ?_
   simp only [pv]
   refine q_v (.int .i64 (((k + 1) % 7 : Nat) : Int)) (exec_rem_i _ _ _ _ rfl (k + 1) 7 rfl rfl (by decide)) ?_
   simp only [pv]
   refine q_v (.pointer (some ⟨gL, 0 + (k + 1) % 7 * 5, none⟩)) ((exec_index_s 59 _ _ rfl gL 0 (7) (7) rfl ((k + 1) % 7) rfl (hl2) _ Tryz.underlying59 5 size_sh5)) ?_
   simp only [pv]
   refine q_v (.pointer (some ⟨gL, 0 + (k + 1) % 7 * 5 + 1, none⟩)) (exec_field 48 _ 1 rfl gL (0 + (k + 1) % 7 * 5) rfl _ Tryz.underlying48 _ rfl 3 Tryz.sizeOf40) ?_
   simp only [pv]
   refine qw_loadm (by rfl) 40 _ rfl _ (0 + (k + 1) % 7 * 5 + 1) rfl rL (natC (YY ((k + 1) % 7))) (shp_y hpt2) _ Tryz.underlying40 rfl size_nat ?_
   simp only [pv]
   refine q_v (.bool B2) (fun w' => (exec_eql_nat _ _ _ rfl (YY k) (YY ((k + 1) % 7)) rfl rfl w').trans (by rw [he2k])) ?_
   simp only [pv]
   refine q_v (.bool false) (y_neB _ _ _ _ rfl B2 B2 rfl rfl und_bool false (by simp)) ?_
   simp only [pv]
   refine qw_pick false (v := .bool false) (by rfl) rfl rfl rfl ?_
   simp only [pv]
   refine qw_nil ?_
   intro w9 hqb
   replace r5 := r5.belowAll hqb
   replace rG := rG.belowAll hqb
   replace rR := rR.belowAll hqb
   replace rF := rF.belowAll hqb
   replace rC := rC.belowAll hqb
   replace rL := rL.belowAll hqb
   replace sb := b_o sb hqb
   clear hqb
   clear hh1k hh2k hh3k hpt hpt2
   iterate 6 go_step
   refine rp ?_
   refine p_m ?_
   simp only [pv]
   refine p_v (.int .i64 ((k + 1 : Nat) : Int)) (exec_add_in _ _ _ _ rfl k 1 rfl rfl (by omega)) ?_
   refine p_a ?_
   simp only [pv]
   refine pw_nil ?_
   go_wp2
   go_roundg y
   case measure => omega
   case rel => exact ⟨k + 1, by omega, rfl, r5, ⟨rG, rR, rF⟩, rC, rL, sb⟩
theorem walk (a0 : Int) (ab : Option Addr) (n c : Nat) (F : Nat → Nat) (gb ob : Nat) (bcs : Array Value) (tb : TypeId) (N : Nat) (w : World) (_ : -9223372036854775808 ≤ a0 ∧ a0 ≤ 9223372036854775807) (hna : NatsAt w ab n F gb ob bcs tb) (hN : N < 2 ^ 256) :
  Calls Tryz.prog 5 #[.int .i64 a0, .slice ab n c, .agg (natC N)] w fun e w' => e = .returned (.bool true) ∧ Below w.heap.size w w' := by
 by_cases h : n < 1 ∨ 4 < n
 ·exact core0 a0 n c N ab w h
 obtain ⟨his, hlt, hG, h2, h63, hL⟩ := pk_gr (ly8 a0 % 3)
 have f := gf_of his hlt
 haveI : NeZero (lN (pk (ly8 a0 % 3) leL otL grL) (pk (ly8 a0 % 3) 3 3 5 - 2)) := ⟨by have := f.big; omega⟩
 have hnw := fun w' x r => gnew_yes (pk (ly8 a0 % 3) 3 3 5) (pk (ly8 a0 % 3) 3 3 5) (some ⟨x, 0, none⟩) (pk (ly8 a0 % 3) leG otG grG) (lN (pk (ly8 a0 % 3) leL otL grL)) _ x 0 _ _ w' h63 hG (lks_links (hL ▸ r) hlt) his
 generalize lN (pk (ly8 a0 % 3) leL otL grL) (pk (ly8 a0 % 3) 3 3 5 - 2) = QQ at *
 generalize lN (pk (ly8 a0 % 3) leL otL grL) (pk (ly8 a0 % 3) 3 3 5 - 1) = PP at *
 obtain ⟨LL, hLL⟩ : ∃ LL : List (Fin QQ), fl n F = LL := ⟨_, rfl⟩
 have hll : LL.length = n := by rw [← hLL]; exact fl_length _ _
 have htl := ptrim_le LL
 have hYl : ∀ k, (pev (fi (k + 1)) LL).val < 2 ^ 256 := fun k => Nat.lt_trans (pev (fi (k + 1)) LL).isLt f.rQ.m
 have hCl : ∀ k, pk (ly8 a0 % 3) leG otG grG ^ (pco LL k).val % PP < 2 ^ 256 := fun k => Nat.lt_trans (Nat.mod_lt _ (by have := f.rP.two; omega)) f.rP.m
 have hpl := fun w' (hb : Below w.heap.size w w') => hLL ▸ (hna.below hb).pl (Q := QQ) (c := c) (by omega)
 refine core1 a0 (ly8 a0) (ly8 a0 % 3) (pk (ly8 a0 % 3) leG otG grG) PP QQ 3 3 5 leG otG grG _ _ _ n c N ab (fun k => pk (ly8 a0 % 3) leG otG grG ^ (pco LL k).val % PP) (fun k => (pev (fi (k + 1)) LL).val) (fun k => decide (N = (pev (fi (k + 1)) LL).val)) (fun k => decide ((pev (fi (k + 1)) LL).val = (pev (fi ((k + 1) % 7 + 1)) LL).val)) w (and_ly8 a0) rfl (by omega) (by omega)
  (fun k => by rw [Nat.mod_eq_of_lt hN, Nat.mod_eq_of_lt (hYl k)]) (fun k => by rw [Nat.mod_eq_of_lt (hYl _), Nat.mod_eq_of_lt (hYl _)]) (fun g gr gf w' hb hg => ?_) (fun g gr gf w' hb hg => ?_) (fun k hk w' g gr gf gC hg rC => ?_) (fun k hk w' g gr gf gC hg rC => ?_) (fun k hk w' g gr gf gC hg rC => ?_) rleast_any rother_any rgreat_any hnw
 ·exact to_ok ab n c LL 4 (by decide) (by decide) (by omega) f.rQ f.rP (Nat.lt_trans f.lt f.rP.m) hg (hpl w' hb)
 ·exact deal_any (.slice ab n c) LL 7 (by decide) (by decide) f.rQ hg (hpl w' hb)
 ·have := chol_any (c := 4) f hg (nats_row rC (fun i _ => hCl i)) ((k + 1 : Nat) : Int) (pev (fi (k + 1)) LL).val (hYl k)
  rw [hol_is f LL 4 (by decide) (by decide) (by omega) (k + 1) _ (by omega) (by omega), decide_eq_true rfl] at this
  exact this
 ·have := chol_any (c := 4) f hg (nats_row rC (fun i _ => hCl i)) ((k + 1 : Nat) : Int) N hN
  rw [hol_is f LL 4 (by decide) (by decide) (by omega) (k + 1) _ (by omega) (by omega)] at this
  exact this
 ·have hl7 : (k + 1) % 7 < 7 := Nat.mod_lt _ (by decide)
  have := chol_any (c := 4) f hg (nats_row rC (fun i _ => hCl i)) (((k + 1) % 7 + 1 : Nat) : Int) (pev (fi (k + 1)) LL).val (hYl k)
  rw [hol_is f LL 4 (by decide) (by decide) (by omega) ((k + 1) % 7 + 1) _ (by omega) (by omega)] at this
  exact this
theorem lifted (os : Os) (started : os.Started) (H : Type) (enc : TypeId × Value → H) :
  ReturnsInHanded {} Tryz.checked os 5 .any (Rows.commitSoundSpec.pre6 enc Tryz.prog Tryz.f5 Rows.commitSoundRow.domain false) (Rows.commitSoundSpec.post enc Tryz.prog Tryz.f5 false true false false) := by
 refine returnsInHanded_of_change (C := Tryz.checked) own started (by kernel_rfl) Tryz.func5
  (ChangeSpec.witness6 (enc := enc) (C := Tryz.checked) false ⟨#[], #[.int .i64 0, .slice none 0 0, .agg #[.int .u64 0, .int .u64 0, .int .u64 0, .int .u64 0]], []⟩ 8 (by kernel_rfl) (by kernel_rfl) (by kernel_rfl) (by kernel_rfl)) ?_
 intro W base args ds gs before hval0 hW hcnd _
 have hval : ∀ (j : Nat) t v, Tryz.f5.params[j]? = some t → args[j]? = some v → Value.okWide Tryz.prog W .any base t v := hval0
 have hW' := hW
 obtain ⟨p, q, hA0, hV, rfl, hfz, hnd⟩ := hW
 have hA : DataW.TrodAll enc Tryz.prog W 0 (fun _ => true) true Tryz.f5.params.toList args.toList ds p := hA0
 rw [Tryz.params5] at hA hval
 obtain ⟨v0, vs0, d0, ds0, p0, q0, hargs, rfl, rfl, h0, r0⟩ := trodAll_cons hA
 obtain ⟨v1, vs1, d1, ds1, p1, q1, rfl, rfl, rfl, h1, r1⟩ := trodAll_cons r0
 obtain ⟨v2, vs2, d2, ds2, p2, q2, rfl, rfl, rfl, h2, r2⟩ := trodAll_cons r1
 obtain ⟨rfl, rfl, rfl⟩ := trodAll_nil r2
 obtain rfl : args = #[v0, v1, v2] := by cases args; simp_all
 obtain ⟨rfl, rfl⟩ := trodVars_none hV
 have k0 := h0
 have lt0 := lt_of_trod h0
 obtain ⟨a0, rfl, rfl, rfl, w0⟩ := open_int Tryz.underlying3 (hval 0 3 v0 rfl rfl) h0
 have k1 := h1
 have lt1 := lt_of_trod h1
 obtain ⟨ab1, n1, c1, F1, gb1, ob1, bcs1, tb1, rfl, _, _, hn1⟩ := open_nats (hval 1 22 v1 rfl rfl) h1
 have k2 := h2
 have lt2 := lt_of_trod h2
 obtain ⟨N2, hN2, rfl⟩ := open_nat (hval 2 40 v2 rfl rfl) h2
 clear hA0 hval0
 refine (walk a0 ab1 n1 c1 F1 gb1 ob1 bcs1 tb1 N2 W (bounds_i64 w0) hn1 hN2).mono fun e W' ⟨he, bel⟩ => ?_
 subst he
 exact ⟨_, rfl, _, _, _, [], _, [], hW', trodAll_mk1 (shut_bool Tryz.underlying4 _), (trodAll_cons_mk (Below.trod laidOut (by kernel_rfl) (of_decide_eq_true (by kernel_rfl)) k0 bel lt0) (trodAll_cons_mk (Below.trod laidOut (by kernel_rfl) (of_decide_eq_true (by kernel_rfl)) k1 bel lt1) (trodAll_cons_mk (Below.trod laidOut (by kernel_rfl) (of_decide_eq_true (by kernel_rfl)) k2 bel lt2) trodAll_mk0))), rfl, bel.frame _, fun h => by cases h⟩
theorem over : Rows.commitSoundRow.holds Tryz.pinned (OpenSpec.ofChange Rows.commitSoundSpec) :=
 OpenClaim.holds_of_wide 5 Tryz.f5 rfl rfl rfl rfl rfl rfl rfl ⟨rfl, rfl, rfl, rfl, rfl⟩ rfl rfl rfl rfl rfl (by kernel_rfl) Tryz.func5 (by kernel_rfl)
  (of_decide_eq_true (by kernel_rfl)) (by unfold Func.isWrapper; first | (rw [if_pos (by decide +kernel)]; kernel_rfl) | (rw [if_neg (by decide +kernel)]; exact ⟨rfl, rfl⟩))
  (fun os started H enc _ => lifted os started H enc)
end commitSoundP
/-- for every number, list of naturals and natural: in one of the three groups, of a list of 1 to 4, each of the seven shares holds, another natural in its place just if it is the same one, and a share under the next number just if that one is the same; no condition. -/
theorem commitSound_holds : Rows.CommitSoundSaid := commitSoundP.over
end Go.Proofs.YtgdalihjpemjiaaGreat
