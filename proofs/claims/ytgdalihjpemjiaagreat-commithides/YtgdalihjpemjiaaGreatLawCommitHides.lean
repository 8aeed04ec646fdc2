/- CommitHides: for every number, list of naturals and number: in one of the three groups, of a list of 1 to 7, the first commitment and one share less than there are coefficients, whichever they are, tell all commitments; no condition. -/
import Derived.Test.YtgdalihjpemjiaaGreatCO
import Derived.Test.YtgdalihjpemjiaaGreatGW
import Derived.Test.YtgdalihjpemjiaaGreatGU
set_option maxRecDepth 100000
set_option maxHeartbeats 2000000
namespace Go.Proofs.YtgdalihjpemjiaaGreat
open Go.ChangeShapes Go.WideShapes Go.ChangeAt Go.RowKit
namespace commitHidesP
set_option linter.unusedVariables false
set_option linter.unusedSectionVars false
theorem core0 (a0 a2 : Int) (n c : Nat) (ab : Option Addr) (w : World) (h : n < 1 ∨ 7 < n) :
  Calls Tryz.prog 7 #[.int .i64 a0, .slice ab n c, .int .i64 a2] w fun e w' => e = .returned (.bool true) ∧ Below w.heap.size w w' := by
 have haw := awake14_any
 go_enter Tryz.func7, Tryz.ntmps7
 have sb := sbmk w
 iterate 2 go_step
 refine rp ?_
 refine p_v (.bool false) (fun _ => rfl) ?_
 simp only [pv]
 refine pw_nil ?_
 iterate 3 go_step
 refine rp ?_
 refine p_m ?_
 simp only [pv]
 refine p_v (.int .i64 n) (exec_len_s 22 _ rfl (ab) (n) (c) rfl sl_natsX) ?_
 refine p_a ?_
 simp only [pv]
 refine pw_nil ?_
 by_cases h1 : n < 1
 ·iterate 4 go_step
  refine rp ?_
  refine p_m ?_
  simp only [pv]
  refine p_v (.bool true) (exec_lt_b _ _ _ _ rfl n 1 rfl rfl true (decide_eq_true (by omega))) ?_
  refine p_m ?_
  simp only [pv]
  refine p_s ?_
  simp only [pv]
  refine p_s ?_
  simp only [pv]
  refine pw_pick (by rfl) true (v := .bool true) rfl rfl rfl ?_
  simp only [pv]
  refine pw_nil ?_
  iterate 4 go_step
  refine rp ?_
  refine pw_callB (by rfl) 9 _ _ rfl Tryz.func9 (by kernel_rfl) #[] rfl _ (haw _) ?_
  intro z3000 k
  simp only [pv]
  replace sb := kk sb k
  clear k
  refine p_a ?_
  simp only [pv]
  refine pw_nil ?_
  go_wp2
  go_ret
  exact ⟨rfl, sb⟩
 ·iterate 4 go_step
  refine rp ?_
  refine p_m ?_
  simp only [pv]
  refine p_v (.bool false) (exec_lt_b _ _ _ _ rfl n 1 rfl rfl false (decide_eq_false (by omega))) ?_
  refine p_m ?_
  refine p_m ?_
  simp only [pv]
  refine p_v (.bool true) (exec_gt_i _ _ _ _ rfl n 7 rfl rfl true (decide_eq_true (by omega))) ?_
  simp only [pv]
  refine pw_pick (by rfl) false (v := .bool true) rfl rfl rfl ?_
  simp only [pv]
  refine pw_nil ?_
  iterate 4 go_step
  refine rp ?_
  refine pw_callB (by rfl) 9 _ _ rfl Tryz.func9 (by kernel_rfl) #[] rfl _ (haw _) ?_
  intro z3000 k
  simp only [pv]
  replace sb := kk sb k
  clear k
  refine p_a ?_
  simp only [pv]
  refine pw_nil ?_
  go_wp2
  go_ret
  exact ⟨rfl, sb⟩
theorem core1 (a0 : Int) (m0 mm GG PP QQ n0 n1 n2 G0 G1 G2 : Nat) (L0 L1 L2 : Array Value) (a2 : Int) (m2 n c : Nat) (ab : Option Addr) (CF YY S : Nat → Nat) (w : World) (hm0 : bits .and .i64 a0 255 = (m0 : Int)) (hmm : m0 % 3 = mm) (hm2 : bits .and .i64 a2 255 = (m2 : Int)) (hl2 : m2 < 256) (hS : ∀ k, (m2 + k) % 7 = S k) (hn : n ≤ 7) (hn1 : 1 ≤ n) (hCl : ∀ k, CF k < 2 ^ 256)
  (hto : ∀ g gr gf w', Below w.heap.size w w' → GrpAt w' g gr gf PP QQ GG → Calls Tryz.prog 13 #[.pointer (some ⟨g, 0, none⟩), .slice ab n c, .int .i64 n] w' fun e w2 => ∃ gC, e = .returned (.tuple #[.slice (some ⟨gC, 0, none⟩) n n, .int .i64 0]) ∧ w'.heap.size ≤ gC ∧ Row w2 gC (nsC n CF) 40 ∧ Below w'.heap.size w' w2)
  (hde : ∀ g gr gf w', Below w.heap.size w w' → GrpAt w' g gr gf PP QQ GG → Calls Tryz.prog 27 #[.pointer (some ⟨g, 0, none⟩), .slice ab n c, .int .i64 7] w' fun e w2 => ∃ gL, e = .returned (.tuple #[.slice (some ⟨gL, 0, none⟩) 7 7, .int .i64 0]) ∧ w'.heap.size ≤ gL ∧ Row w2 gL (esC 5 7 (fun k => shC ((k + 1 : Nat) : Int) (YY k))) 48 ∧ Below w'.heap.size w' w2)
  (hfr : ∀ g gr gf w' ap cp gp cur, GrpAt w' g gr gf PP QQ GG → ElsAt 5 w' ap (n - 1) (fun k => shC ((S k + 1 : Nat) : Int) (YY (S k))) gp 0 cur 48 → Calls Tryz.prog 28 #[.pointer (some ⟨g, 0, none⟩), .agg (natC (CF 0)), .slice ap (n - 1) cp] w' fun e w2 => ∃ gD, e = .returned (.tuple #[.slice (some ⟨gD, 0, none⟩) n n, .int .i64 0]) ∧ w'.heap.size ≤ gD ∧ Row w2 gD (nsC n CF) 40 ∧ Below w'.heap.size w' w2)
  (hA0 : ∀ w', Calls Tryz.prog 24 #[] w' fun e w2 => ∃ g, e = .returned (.agg (paC (some ⟨g, 0, none⟩) n0 n0 G0)) ∧ w'.heap.size ≤ g ∧ Row w2 g L0 98 ∧ Below w'.heap.size w' w2)
  (hA1 : ∀ w', Calls Tryz.prog 25 #[] w' fun e w2 => ∃ g, e = .returned (.agg (paC (some ⟨g, 0, none⟩) n1 n1 G1)) ∧ w'.heap.size ≤ g ∧ Row w2 g L1 98 ∧ Below w'.heap.size w' w2)
  (hA2 : ∀ w', Calls Tryz.prog 26 #[] w' fun e w2 => ∃ g, e = .returned (.agg (paC (some ⟨g, 0, none⟩) n2 n2 G2)) ∧ w'.heap.size ≤ g ∧ Row w2 g L2 98 ∧ Below w'.heap.size w' w2)
  (hnw : ∀ w' x, Row w' x (pk mm L0 L1 L2) 98 → Calls Tryz.prog 23 #[.agg (paC (some ⟨x, 0, none⟩) (pk mm n0 n1 n2) (pk mm n0 n1 n2) (pk mm G0 G1 G2))] w' fun e w2 => ∃ g gr gf, e = .returned (.tuple #[.pointer (some ⟨g, 0, none⟩), .int .i64 0]) ∧ GrpAt w2 g gr gf PP QQ GG ∧ Below w'.heap.size w' w2) :
  Calls Tryz.prog 7 #[.int .i64 a0, .slice ab n c, .int .i64 a2] w fun e w' => e = .returned (.bool true) ∧ Below w.heap.size w w' := by
 have haw := awake14_any
 obtain ⟨ie, hie, hz, hsz, hby⟩ := info_shb
 have hs1 : ¬ 1 * ie.size > 2 ^ 24 := by rw [hsz]; decide
 have hs2 : ¬ 1 * ie.size = 0 := by rw [hsz]; decide
 obtain ⟨CC, hCC⟩ : ∃ CC : Nat → Array Value, ∀ k, CC k = shC ((S k + 1 : Nat) : Int) (YY (S k)) := ⟨_, fun _ => rfl⟩
 have HC5 : Hid (∀ k, (CC k).size = 5) := fun k => by rw [hCC]; rfl
 have HCo : Hid (∀ k, (CC k).all (·.oneCell') = true) := fun k => by rw [hCC]; exact sh_one _ _
 have HCC : Hid (∀ k, CC k = shC ((S k + 1 : Nat) : Int) (YY (S k))) := hCC
 have HS : Hid (∀ k, (m2 + k) % 7 = S k) := hS
 have HLi : Hid (∀ i, Instr.fill (fun i => some (i * ie.size, ie.size)) ((Array.range (1 * ie.size)).map ((Value.agg #[.int .i64 0, .int .u64 0, .int .u64 0, .int .u64 0, .int .u64 0]).cells[· % (Value.agg #[.int .i64 0, .int .u64 0, .int .u64 0, .int .u64 0, .int .u64 0]).cells.size]!)) [(0, .agg (shC ((S i + 1 : Nat) : Int) (YY (S i))))] = some (CC i)) := fun i => by
  rw [hCC]
  exact lit_sh1 _ _ _ hsz
 have HSZ : Hid (∀ k : Nat, (shC ((k + 1 : Nat) : Int) (YY k)).size = 5) := fun k => rfl
 have hsa := fun w' gD gC (rD : Row w' gD (nsC n CF) 40) (rC : Row w' gC (nsC n CF) 40) => rsame_yes n n n (some ⟨gD, 0, none⟩) (some ⟨gC, 0, none⟩) CF gD 0 gC 0 _ _ _ _ w' (by omega) (nats_row rD (fun i _ => hCl i)) (nats_row rC (fun i _ => hCl i))
 clear hCC hS hCl
 obtain ⟨ip, hip, hzp, hszp⟩ := info_pa'
 have hp1 : ¬ 3 * ip.size > 2 ^ 24 := by rw [hszp]; decide
 have hp2 : ¬ 3 * ip.size = 0 := by rw [hszp]; decide
 have hlp := fun x y z n m l X Y Z => lit_pas x y z n m l X Y Z ip.size hszp
 have hMM : Hid (m0 % 3 = mm) := hmm
 have hm3 : mm < 3 := by rw [← hmm]; exact Nat.mod_lt _ (by decide)
 clear hmm hszp
 go_enter Tryz.func7, Tryz.ntmps7
 have sb := sbmk w
 iterate 2 go_step
 refine rp ?_
 refine p_v (.bool false) (fun _ => rfl) ?_
 simp only [pv]
 refine pw_nil ?_
 iterate 3 go_step
 refine rp ?_
 refine p_m ?_
 simp only [pv]
 refine p_v (.int .i64 n) (exec_len_s 22 _ rfl (ab) (n) (c) rfl sl_natsX) ?_
 refine p_a ?_
 simp only [pv]
 refine pw_nil ?_
 iterate 4 go_step
 refine rp ?_
 refine p_m ?_
 simp only [pv]
 refine p_v (.bool false) (exec_lt_b _ _ _ _ rfl n 1 rfl rfl false (decide_eq_false (by omega))) ?_
 refine p_m ?_
 refine p_m ?_
 simp only [pv]
 refine p_v (.bool false) (exec_gt_i _ _ _ _ rfl n 7 rfl rfl false (decide_eq_false (by omega))) ?_
 simp only [pv]
 refine pw_pick (by rfl) false (v := .bool false) rfl rfl rfl ?_
 simp only [pv]
 refine pw_nil ?_
 iterate 7 go_step
 refine rp ?_
 refine pw_callE (by rfl) 24 _ _ rfl Tryz.func24 (by kernel_rfl) #[] rfl (hA0 _) ?_
 rintro _ z4000 ⟨gU, rfl, nU, rU, hb⟩
 refine ⟨_, rfl, ?_⟩
 simp only [pv]
 clear nU
 have k := Kept.ofBelow hb
 clear hb
 replace sb := kk sb k
 clear k
 refine pw_callE (by rfl) 25 _ _ rfl Tryz.func25 (by kernel_rfl) #[] rfl (hA1 _) ?_
 rintro _ z4001 ⟨gV, rfl, nV, rV, hb⟩
 refine ⟨_, rfl, ?_⟩
 simp only [pv]
 clear nV
 have k := Kept.ofBelow hb
 clear hb
 replace rU := k.ro rU
 replace sb := kk sb k
 clear k
 refine pw_callE (by rfl) 26 _ _ rfl Tryz.func26 (by kernel_rfl) #[] rfl (hA2 _) ?_
 rintro _ z4002 ⟨gW, rfl, nW, rW, hb⟩
 refine ⟨_, rfl, ?_⟩
 simp only [pv]
 clear nW
 have k := Kept.ofBelow hb
 clear hb
 replace rU := k.ro rU
 replace rV := k.ro rV
 replace sb := kk sb k
 clear k
 refine pw_litr (by rfl) 58 56 3 _ rfl (pasC (some ⟨gU, 0, none⟩) (some ⟨gV, 0, none⟩) (some ⟨gW, 0, none⟩) n0 n1 n2 G0 G1 G2) ip _ Tryz.underlying58 hip hzp hp1 hp2 [(0, .agg (paC (some ⟨gU, 0, none⟩) n0 n0 G0)), (1, .agg (paC (some ⟨gV, 0, none⟩) n1 n1 G1)), (2, .agg (paC (some ⟨gW, 0, none⟩) n2 n2 G2))] rfl (hlp _ _ _ _ _ _ _ _ _) ?_
 intro gT z4003 n0 rT k
 simp only [pv]
 clear n0
 replace rU := k.ro rU
 replace rV := k.ro rV
 replace rW := k.ro rW
 replace sb := kk sb k
 clear k
 refine p_m ?_
 simp only [pv]
 refine p_v (.int .i64 (m0 : Nat)) (fun w' => (exec_bits_i .and _ _ _ _ (.inl rfl) rfl a0 255 rfl rfl w').trans (by rw [hm0])) ?_
 simp only [pv]
 refine p_v (.int .i64 (mm : Nat)) (fun w' => (exec_rem_i _ _ _ _ rfl m0 3 rfl rfl (by decide) w').trans (by rw [hMM.out])) ?_
 simp only [pv]
 refine p_v (.pointer (some ⟨gT, 0 + mm * 5, none⟩)) (exec_index_s 58 _ _ rfl gT 0 3 3 rfl mm rfl hm3 _ Tryz.underlying58 5 Tryz.sizeOf56) ?_
 simp only [pv]
 refine pw_loadm (by rfl) 56 _ rfl _ (0 + mm * 5) rfl rT.r (paC (some ⟨pk mm gU gV gW, 0, none⟩) (pk mm n0 n1 n2) (pk mm n0 n1 n2) (pk mm G0 G1 G2)) (pas_part gU gV gW n0 n1 n2 G0 G1 G2 mm hm3) _ Tryz.underlying56 rfl size_pa ?_
 simp only [pv]
 refine pw_callE (by rfl) 23 _ _ rfl Tryz.func23 (by kernel_rfl) #[.agg (paC (some ⟨pk mm gU gV gW, 0, none⟩) (pk mm n0 n1 n2) (pk mm n0 n1 n2) (pk mm G0 G1 G2))] rfl (hnw _ _ (pk_row mm rU rV rW)) ?_
 rintro _ z4009 ⟨g, gr, gf, rfl, ⟨rG, rR, rF⟩, hb⟩
 refine ⟨_, rfl, ?_⟩
 simp only [pv]
 have k := Kept.ofBelow hb
 clear hb
 replace rU := k.ro rU
 replace rV := k.ro rV
 replace rW := k.ro rW
 replace rT := k.ro rT
 replace sb := kk sb k
 clear k
 refine p_m ?_
 refine p_e ?_
 refine p_e ?_
 refine p_a ?_
 refine p_a ?_
 simp only [pv]
 refine pw_nil ?_
 clear rU rV rW rT hA0 hA1 hA2 hnw hlp hip hzp hp1 hp2
 iterate 3 go_step
 refine rp ?_
 refine p_m ?_
 refine p_m ?_
 refine p_m ?_
 simp only [pv]
 refine pw_callE (by rfl) 13 _ _ rfl Tryz.func13 (by kernel_rfl) #[.pointer (some ⟨g, 0, none⟩), .slice ab n c, .int .i64 n] rfl (hto g gr gf _ sb (⟨rG, rR, rF⟩ : GrpAt _ g gr gf PP QQ GG)) ?_
 rintro _ z5003 ⟨gC, rfl, nC, rC, hb⟩
 refine ⟨_, rfl, ?_⟩
 simp only [pv]
 clear nC
 have k := Kept.ofBelow hb
 clear hb
 replace rG := k.ro rG
 replace rR := k.ro rR
 replace rF := k.ro rF
 replace sb := kk sb k
 clear k
 refine p_m ?_
 refine p_e ?_
 refine p_e ?_
 refine p_a ?_
 refine p_a ?_
 simp only [pv]
 refine pw_nil ?_
 clear hto
 iterate 3 go_step
 refine rp ?_
 refine p_m ?_
 refine p_m ?_
 simp only [pv]
 refine pw_callE (by rfl) 27 _ _ rfl Tryz.func27 (by kernel_rfl) #[.pointer (some ⟨g, 0, none⟩), .slice ab n c, .int .i64 7] rfl (hde g gr gf _ sb (⟨rG, rR, rF⟩ : GrpAt _ g gr gf PP QQ GG)) ?_
 rintro _ z6002 ⟨gL, rfl, nL, rL, hb⟩
 refine ⟨_, rfl, ?_⟩
 simp only [pv]
 clear nL
 have k := Kept.ofBelow hb
 clear hb
 replace rG := k.ro rG
 replace rR := k.ro rR
 replace rF := k.ro rF
 replace rC := k.ro rC
 replace sb := kk sb k
 clear k
 refine p_m ?_
 refine p_e ?_
 refine p_e ?_
 refine p_a ?_
 refine p_a ?_
 simp only [pv]
 refine pw_nil ?_
 clear hde
 iterate 4 go_step
 refine rp ?_
 refine p_m ?_
 simp only [pv]
 refine p_v (.bool false) (exec_neq_k .i64 _ _ _ _ rfl 0 0 rfl rfl false rfl) ?_
 refine p_m ?_
 refine p_m ?_
 simp only [pv]
 refine p_v (.bool false) (exec_neq_k .i64 _ _ _ _ rfl 0 0 rfl rfl false rfl) ?_
 simp only [pv]
 refine pw_pick (by rfl) false (v := .bool false) rfl rfl rfl ?_
 refine p_m ?_
 refine p_m ?_
 simp only [pv]
 refine p_v (.bool false) (exec_neq_k .i64 _ _ _ _ rfl 0 0 rfl rfl false rfl) ?_
 simp only [pv]
 refine pw_pick (by rfl) false (v := .bool false) rfl rfl rfl ?_
 refine p_m ?_
 refine p_m ?_
 simp only [pv]
 refine p_v (.int .i64 n) (exec_len_s 22 _ rfl (some ⟨gC, 0, none⟩) (n) (n) rfl sl_natsX) ?_
 refine p_m ?_
 simp only [pv]
 refine p_v (.bool false) (exec_neq_k .i64 _ _ _ _ rfl n n rfl rfl false (by rw [decide_eq_true rfl]; rfl)) ?_
 simp only [pv]
 refine pw_pick (by rfl) false (v := .bool false) rfl rfl rfl ?_
 refine p_m ?_
 refine p_m ?_
 simp only [pv]
 refine p_v (.int .i64 7) (exec_len_s 59 _ rfl (some ⟨gL, 0, none⟩) (7) (7) rfl sl_shs) ?_
 simp only [pv]
 refine p_v (.bool false) (exec_neq_k .i64 _ _ _ _ rfl 7 7 rfl rfl false rfl) ?_
 simp only [pv]
 refine pw_pick (by rfl) false (v := .bool false) rfl rfl rfl ?_
 simp only [pv]
 refine pw_nil ?_
 iterate 7 go_step
 refine rp ?_
 refine p_v (.slice none 0 0) ((fun _ => rfl)) ?_
 simp only [pv]
 refine pw_nil ?_
 iterate 4 go_step
 refine rp ?_
 refine p_v (.int .i64 0) (fun _ => rfl) ?_
 simp only [pv]
 refine pw_nil ?_
 go_wp2_with fail
 go_loopg [14, 15, 16] (n - 1) (fun y s14 s15 s16 wr => ∃ k : Nat, k + y = n - 1 ∧ s15 = .int .i64 k ∧ OwnE 5 48 wr w.heap.size s14 k CC ∧ s14.ownBlock ≠ some g ∧ s14.ownBlock ≠ some gr ∧ s14.ownBlock ≠ some gf ∧ s14.ownBlock ≠ some gC ∧ s14.ownBlock ≠ some gL ∧ GrpAt wr g gr gf PP QQ GG ∧ Row wr gC (nsC n CF) 40 ∧ Row wr gL (esC 5 7 (fun k => shC ((k + 1 : Nat) : Int) (YY k))) 48 ∧ Below w.heap.size w wr)
 case atStart => exact ⟨0, by omega, rfl, ownE_nil _ _ _ _, nofun, nofun, nofun, nofun, nofun, ⟨rG, rR, rF⟩, rC, rL, sb⟩
 case round =>
  clear rG rR rF rC rL sb
  obtain ⟨k, hk, rfl, hP, ehPxG, ehPxR, ehPxF, ehPxC, ehPxL, ⟨rG, rR, rF⟩, rC, rL, sb⟩ := hrel
  cases gk with
  | zero =>
   obtain ⟨rfl⟩ : k = n - 1 := by omega
   clear hk
   obtain ⟨ap, cp, gp, cur, rfl, hcp, hpp⟩ := ownE_els HC5.out hP
   have hpe := hpp.congr (fun k _ => HCC.out k)
   clear hP hpp ehPxG ehPxR ehPxF ehPxC ehPxL
   iterate 2 go_step
   refine rp ?_
   refine p_m ?_
   simp only [pv]
   refine p_v (.bool true) (exec_lt_b _ _ _ _ rfl ((n - 1 : Nat) : Int) 7 rfl rfl true (decide_eq_true (by omega))) ?_
   refine p_m ?_
   refine p_m ?_
   simp only [pv]
   refine p_v (.int .i64 ((n - 1 : Nat) : Int)) (exec_len_s 59 _ rfl (ap) (n - 1) (cp) rfl sl_shs) ?_
   refine p_m ?_
   simp only [pv]
   refine p_v (.int .i64 ((n - 1 : Nat) : Int)) ((fun w' => (exec_sub_in _ _ _ _ rfl n 1 rfl rfl (by omega) (by omega) w'))) ?_
   simp only [pv]
   refine p_v (.bool false) (exec_lt_b _ _ _ _ rfl ((n - 1 : Nat) : Int) ((n - 1 : Nat) : Int) rfl rfl false (decide_eq_false (Int.lt_irrefl _))) ?_
   simp only [pv]
   refine pw_pick (by rfl) true (v := .bool false) rfl rfl rfl ?_
   simp only [pv]
   refine pw_nil ?_
   iterate 7 go_step
   refine rp ?_
   refine p_m ?_
   refine p_m ?_
   simp only [pv]
   refine p_v (.pointer (some ⟨gC, 0 + 0 * 4, none⟩)) ((exec_index_s 22 _ _ rfl gC 0 (n) (n) rfl (0) rfl (by omega) _ Tryz.underlying22 4 size_nat4)) ?_
   simp only [pv]
   refine pw_loadm (by rfl) 40 _ rfl _ (0 + 0 * 4) rfl rC.r (natC (CF 0)) (nsC_part n CF 0 (by omega) (0 + 0 * 4) rfl) _ Tryz.underlying40 rfl size_nat ?_
   refine p_m ?_
   simp only [pv]
   refine pw_callE (by rfl) 28 _ _ rfl Tryz.func28 (by kernel_rfl) #[.pointer (some ⟨g, 0, none⟩), .agg (natC (CF 0)), .slice ap (n - 1) cp] rfl (hfr g gr gf _ ap cp gp cur (⟨rG, rR, rF⟩ : GrpAt _ g gr gf PP QQ GG) hpe) ?_
   rintro _ z15005 ⟨gD, rfl, nD, rD, hb⟩
   refine ⟨_, rfl, ?_⟩
   simp only [pv]
   clear nD
   have k := Kept.ofBelow hb
   clear hb
   replace rG := k.ro rG
   replace rR := k.ro rR
   replace rF := k.ro rF
   replace rC := k.ro rC
   replace hpe := hpe.below k.nil
   replace sb := kk sb k
   clear k
   refine p_m ?_
   refine p_e ?_
   refine p_e ?_
   refine p_a ?_
   refine p_a ?_
   simp only [pv]
   refine pw_nil ?_
   clear hfr hpe
   iterate 3 go_step
   refine rp ?_
   refine p_m ?_
   simp only [pv]
   refine p_v (.bool true) (exec_eql_k .i64 _ _ _ _ rfl 0 0 rfl rfl true rfl) ?_
   refine p_m ?_
   refine p_m ?_
   refine p_m ?_
   simp only [pv]
   refine pw_callB (by rfl) 19 _ _ rfl Tryz.func19 (by kernel_rfl) #[.slice (some ⟨gD, 0, none⟩) n n, .slice (some ⟨gC, 0, none⟩) n n] rfl _ (hsa _ gD gC rD rC) ?_
   intro z16005 k
   simp only [pv]
   replace rC := k.ro rC
   replace rD := k.ro rD
   replace sb := kk sb k
   clear k
   refine pw_pick (by rfl) true (v := .bool true) rfl rfl rfl ?_
   refine p_m ?_
   simp only [pv]
   refine pw_callB (by rfl) 9 _ _ rfl Tryz.func9 (by kernel_rfl) #[] rfl _ (haw _) ?_
   intro z16008 k
   simp only [pv]
   replace rC := k.ro rC
   replace rD := k.ro rD
   replace sb := kk sb k
   clear k
   refine pw_pick (by rfl) true (v := .bool true) rfl rfl rfl ?_
   refine p_a ?_
   simp only [pv]
   refine pw_nil ?_
   go_wp2
   go_ret
   exact ⟨rfl, sb⟩
  | succ y =>
   have hlt : k < n - 1 := by omega
   have hSk := HS.out k
   have hS7 : S k < 7 := by rw [← hSk]; exact Nat.mod_lt _ (by decide)
   have hli := HLi.out k
   obtain ⟨aq, cq, rfl⟩ := own_shape hP
   clear hfr hsa haw
   iterate 2 go_step
   refine rp ?_
   refine p_m ?_
   simp only [pv]
   refine p_v (.bool true) (exec_lt_b _ _ _ _ rfl k 7 rfl rfl true (decide_eq_true (by omega))) ?_
   refine p_m ?_
   refine p_m ?_
   simp only [pv]
   refine p_v (.int .i64 k) (exec_len_s 59 _ rfl (aq) (k) (cq) rfl sl_shs) ?_
   refine p_m ?_
   simp only [pv]
   refine p_v (.int .i64 ((n - 1 : Nat) : Int)) ((fun w' => (exec_sub_in _ _ _ _ rfl n 1 rfl rfl (by omega) (by omega) w'))) ?_
   simp only [pv]
   refine p_v (.bool true) (exec_lt_b _ _ _ _ rfl k ((n - 1 : Nat) : Int) rfl rfl true (decide_eq_true (by omega))) ?_
   simp only [pv]
   refine pw_pick (by rfl) true (v := .bool true) rfl rfl rfl ?_
   simp only [pv]
   refine pw_nil ?_
   iterate 9 go_step
   refine rp ?_
   refine p_m ?_
   simp only [pv]
   refine p_v (.int .i64 (m2 : Nat)) (fun w' => (exec_bits_i .and _ _ _ _ (.inl rfl) rfl a2 255 rfl rfl w').trans (by rw [hm2])) ?_
   refine p_m ?_
   simp only [pv]
   refine p_v (.int .i64 ((m2 + k : Nat) : Int)) (exec_add_in _ _ _ _ rfl m2 k rfl rfl (by omega)) ?_
   simp only [pv]
   refine p_v (.int .i64 (S k : Nat)) (fun w' => (exec_rem_i _ _ _ _ rfl (m2 + k) 7 rfl rfl (by decide) w').trans (by rw [hSk])) ?_
   refine p_a ?_
   simp only [pv]
   refine pw_nil ?_
   iterate 2 go_step
   refine rp ?_
   refine p_m ?_
   refine p_m ?_
   refine p_m ?_
   simp only [pv]
   refine p_v (.pointer (some ⟨gL, 0 + S k * 5, none⟩)) ((exec_index_s 59 _ _ rfl gL 0 (7) (7) rfl (S k) rfl (hS7) _ Tryz.underlying59 5 size_sh5)) ?_
   simp only [pv]
   refine pw_loadm (by rfl) 48 _ rfl _ (0 + S k * 5) rfl rL.r (shC ((S k + 1 : Nat) : Int) (YY (S k))) (esC_part HSZ.out (S k) hS7 (0 + S k * 5) (by omega)) _ Tryz.underlying48 rfl size_sh ?_
   simp only [pv]
   refine pw_litr (by rfl) 59 48 1 _ rfl (CC k) ie _ Tryz.underlying59 hie hz hs1 hs2 [(0, .agg (shC ((S k + 1 : Nat) : Int) (YY (S k))))] rfl hli ?_
   intro gA z14005 n0 rA k
   simp only [pv]
   clear n0
   replace rG := k.ro rG
   replace rR := k.ro rR
   replace rF := k.ro rF
   replace rC := k.ro rC
   replace rL := k.ro rL
   replace hP := hP.on k (own_ne0 _)
   replace sb := kk sb k
   clear k
   refine pw_appE (by rfl) _ _ (59) rfl (w.heap.size) 48 ie _ 5 40 Tryz.underlying59 hie hz hsz hby rfl (by decide) (by decide) (_) (k) (CC) (HC5.out) rfl hP gA _ rfl rA (HCo.out _) ((by omega)) sb.size ?_
   have h0 := hP
   clear hP
   intro v1 z14006 hP k hp
   simp only [pv]
   have crG := rG.lt
   replace rG := k.row rG (by first | exact own_nin ehPxG | exact own_nin (h0.low (by omega)))
   have crR := rR.lt
   replace rR := k.row rR (by first | exact own_nin ehPxR | exact own_nin (h0.low (by omega)))
   have crF := rF.lt
   replace rF := k.row rF (by first | exact own_nin ehPxF | exact own_nin (h0.low (by omega)))
   have crC := rC.lt
   replace rC := k.row rC (by first | exact own_nin ehPxC | exact own_nin (h0.low (by omega)))
   have crL := rL.lt
   replace rL := k.row rL (by first | exact own_nin ehPxL | exact own_nin (h0.low (by omega)))
   (try replace ehPxG := own_apart hp crG ehPxG)
   clear crG
   (try replace ehPxR := own_apart hp crR ehPxR)
   clear crR
   (try replace ehPxF := own_apart hp crF ehPxF)
   clear crF
   (try replace ehPxC := own_apart hp crC ehPxC)
   clear crC
   (try replace ehPxL := own_apart hp crL ehPxL)
   clear crL
   clear hp
   replace sb := sb.trans (k.below w.heap.size sb.size h0.base)
   clear h0
   clear k
   refine p_a ?_
   simp only [pv]
   refine pw_nil ?_
   iterate 2 go_step
   refine rp ?_
   refine p_m ?_
   simp only [pv]
   refine p_v (.int .i64 ((k + 1 : Nat) : Int)) (exec_add_in _ _ _ _ rfl k 1 rfl rfl (by omega)) ?_
   refine p_a ?_
   simp only [pv]
   refine pw_nil ?_
   go_wp2
   go_roundg y
   case measure => omega
   case rel => exact ⟨k + 1, by omega, rfl, hP, ehPxG, ehPxR, ehPxF, ehPxC, ehPxL, ⟨rG, rR, rF⟩, rC, rL, sb⟩
theorem walk (a0 : Int) (ab : Option Addr) (n c : Nat) (F : Nat → Nat) (gb ob : Nat) (bcs : Array Value) (tb : TypeId) (a2 : Int) (w : World) (_ : -9223372036854775808 ≤ a0 ∧ a0 ≤ 9223372036854775807) (hna : NatsAt w ab n F gb ob bcs tb) (_ : -9223372036854775808 ≤ a2 ∧ a2 ≤ 9223372036854775807) :
  Calls Tryz.prog 7 #[.int .i64 a0, .slice ab n c, .int .i64 a2] w fun e w' => e = .returned (.bool true) ∧ Below w.heap.size w w' := by
 by_cases h : n < 1 ∨ 7 < n
 ·exact core0 a0 a2 n c ab w h
 obtain ⟨his, hlt, hG, h2, h63, hL⟩ := pk_gr (ly8 a0 % 3)
 have f := gf_of his hlt
 haveI : NeZero (lN (pk (ly8 a0 % 3) leL otL grL) (pk (ly8 a0 % 3) 3 3 5 - 2)) := ⟨by have := f.big; omega⟩
 have hnw := fun w' x r => gnew_yes (pk (ly8 a0 % 3) 3 3 5) (pk (ly8 a0 % 3) 3 3 5) (some ⟨x, 0, none⟩) (pk (ly8 a0 % 3) leG otG grG) (lN (pk (ly8 a0 % 3) leL otL grL)) _ x 0 _ _ w' h63 hG (lks_links (hL ▸ r) hlt) his
 generalize lN (pk (ly8 a0 % 3) leL otL grL) (pk (ly8 a0 % 3) 3 3 5 - 2) = QQ at *
 generalize lN (pk (ly8 a0 % 3) leL otL grL) (pk (ly8 a0 % 3) 3 3 5 - 1) = PP at *
 obtain ⟨LL, hLL⟩ : ∃ LL : List (Fin QQ), fl n F = LL := ⟨_, rfl⟩
 have hll : LL.length = n := by rw [← hLL]; exact fl_length _ _
 have htl := ptrim_le LL
 have hYl : ∀ k, (pev (fi (k + 1)) LL).val < 2 ^ 256 := fun k => Nat.lt_trans (pev (fi (k + 1)) LL).isLt f.rQ.m
 have hCl : ∀ k, pk (ly8 a0 % 3) leG otG grG ^ (pco LL k).val % PP < 2 ^ 256 := fun k => Nat.lt_trans (Nat.mod_lt _ (by have := f.rP.two; omega)) f.rP.m
 have hpl := fun w' (hb : Below w.heap.size w w') => hLL ▸ (hna.below hb).pl (Q := QQ) (c := c) (by omega)
 refine core1 a0 (ly8 a0) (ly8 a0 % 3) (pk (ly8 a0 % 3) leG otG grG) PP QQ 3 3 5 leG otG grG _ _ _ a2 (ly8 a2) n c ab (fun k => pk (ly8 a0 % 3) leG otG grG ^ (pco LL k).val % PP) (fun k => (pev (fi (k + 1)) LL).val) (fun k => (ly8 a2 + k) % 7) w (and_ly8 a0) rfl (and_ly8 a2) (ly8_lt a2) (fun _ => rfl) (by omega) (by omega) hCl (fun g gr gf w' hb hg => ?_) (fun g gr gf w' hb hg => ?_) (fun g gr gf w' ap cp gp cur hg hp => ?_) rleast_any rother_any rgreat_any hnw
 ·exact to_ok ab n c LL n (by omega) (by omega) (by omega) f.rQ f.rP (Nat.lt_trans f.lt f.rP.m) hg (hpl w' hb)
 ·exact deal_any (.slice ab n c) LL 7 (by decide) (by decide) f.rQ hg (hpl w' hb)
 ·have hap : apB 0 (fun k => ((Zn (fun k => (ly8 a2 + k) % 7 + 1) k : Nat) : Int)) (n - 1 + 1) = true := by
   refine (apB_iff _ _ _).2 ⟨fun k hk => ?_, fun j k hjk hk => ?_⟩
   ·cases k with
    | zero => exact ⟨Int.le_refl 0, by show (0 : Int) ≤ 7; decide⟩
    | succ k =>
     show (0 : Int) ≤ (((ly8 a2 + k) % 7 + 1 : Nat) : Int) ∧ (((ly8 a2 + k) % 7 + 1 : Nat) : Int) ≤ 7
     omega
   ·cases k with
    | zero => omega
    | succ k =>
     cases j with
     | zero =>
      show ((0 : Nat) : Int) ≠ (((ly8 a2 + k) % 7 + 1 : Nat) : Int)
      omega
     | succ j =>
      show (((ly8 a2 + j) % 7 + 1 : Nat) : Int) ≠ (((ly8 a2 + k) % 7 + 1 : Nat) : Int)
      omega
  have hc := cfrom_ok (c := cp) (A := pk (ly8 a0 % 3) leG otG grG ^ (pco LL 0).val % PP) (Y := fun k => (pev (fi ((ly8 a2 + k) % 7 + 1)) LL).val) f hg (hCl 0) (by omega) (mem_yes f.rP.two f.ord _) (fun k _ => hYl _) hp hap
  rw [show n - 1 + 1 = n by omega] at hc
  refine hc.mono ?_
  rintro e w2 ⟨gD, rfl, h1, h3, h4⟩
  rw [nsC_congr n _ (fun k => pk (ly8 a0 % 3) leG otG grG ^ (pco LL k).val % PP) (fun j hj => by
   have hf := fr_is f hap LL (by omega) (fun i _ => rfl) j
   rw [show n - 1 + 1 = n by omega] at hf
   exact hf)] at h3
  exact ⟨gD, rfl, h1, h3, h4⟩
theorem lifted (os : Os) (started : os.Started) (H : Type) (enc : TypeId × Value → H) :
  ReturnsInHanded {} Tryz.checked os 7 .any (Rows.commitHidesSpec.pre6 enc Tryz.prog Tryz.f7 Rows.commitHidesRow.domain false) (Rows.commitHidesSpec.post enc Tryz.prog Tryz.f7 false true false false) := by
 refine returnsInHanded_of_change (C := Tryz.checked) own started (by kernel_rfl) Tryz.func7
  (ChangeSpec.witness6 (enc := enc) (C := Tryz.checked) false ⟨#[], #[.int .i64 0, .slice none 0 0, .int .i64 0], []⟩ 8 (by kernel_rfl) (by kernel_rfl) (by kernel_rfl) (by kernel_rfl)) ?_
 intro W base args ds gs before hval0 hW hcnd _
 have hval : ∀ (j : Nat) t v, Tryz.f7.params[j]? = some t → args[j]? = some v → Value.okWide Tryz.prog W .any base t v := hval0
 have hW' := hW
 obtain ⟨p, q, hA0, hV, rfl, hfz, hnd⟩ := hW
 have hA : DataW.TrodAll enc Tryz.prog W 0 (fun _ => true) true Tryz.f7.params.toList args.toList ds p := hA0
 rw [Tryz.params7] at hA hval
 obtain ⟨v0, vs0, d0, ds0, p0, q0, hargs, rfl, rfl, h0, r0⟩ := trodAll_cons hA
 obtain ⟨v1, vs1, d1, ds1, p1, q1, rfl, rfl, rfl, h1, r1⟩ := trodAll_cons r0
 obtain ⟨v2, vs2, d2, ds2, p2, q2, rfl, rfl, rfl, h2, r2⟩ := trodAll_cons r1
 obtain ⟨rfl, rfl, rfl⟩ := trodAll_nil r2
 obtain rfl : args = #[v0, v1, v2] := by cases args; simp_all
 obtain ⟨rfl, rfl⟩ := trodVars_none hV
 have k0 := h0
 have lt0 := lt_of_trod h0
 obtain ⟨a0, rfl, rfl, rfl, w0⟩ := open_int Tryz.underlying3 (hval 0 3 v0 rfl rfl) h0
 have k1 := h1
 have lt1 := lt_of_trod h1
 obtain ⟨ab1, n1, c1, F1, gb1, ob1, bcs1, tb1, rfl, _, _, hn1⟩ := open_nats (hval 1 22 v1 rfl rfl) h1
 have k2 := h2
 have lt2 := lt_of_trod h2
 obtain ⟨a2, rfl, rfl, rfl, w2⟩ := open_int Tryz.underlying3 (hval 2 3 v2 rfl rfl) h2
 clear hA0 hval0
 refine (walk a0 ab1 n1 c1 F1 gb1 ob1 bcs1 tb1 a2 W (bounds_i64 w0) hn1 (bounds_i64 w2)).mono fun e W' ⟨he, bel⟩ => ?_
 subst he
 exact ⟨_, rfl, _, _, _, [], _, [], hW', trodAll_mk1 (shut_bool Tryz.underlying4 _), (trodAll_cons_mk (Below.trod laidOut (by kernel_rfl) (of_decide_eq_true (by kernel_rfl)) k0 bel lt0) (trodAll_cons_mk (Below.trod laidOut (by kernel_rfl) (of_decide_eq_true (by kernel_rfl)) k1 bel lt1) (trodAll_cons_mk (Below.trod laidOut (by kernel_rfl) (of_decide_eq_true (by kernel_rfl)) k2 bel lt2) trodAll_mk0))), rfl, bel.frame _, fun h => by cases h⟩
theorem over : Rows.commitHidesRow.holds Tryz.pinned (OpenSpec.ofChange Rows.commitHidesSpec) :=
 OpenClaim.holds_of_wide 7 Tryz.f7 rfl rfl rfl rfl rfl rfl rfl ⟨rfl, rfl, rfl, rfl, rfl⟩ rfl rfl rfl rfl rfl (by kernel_rfl) Tryz.func7 (by kernel_rfl)
  (of_decide_eq_true (by kernel_rfl)) (by unfold Func.isWrapper; first | (rw [if_pos (by decide +kernel)]; kernel_rfl) | (rw [if_neg (by decide +kernel)]; exact ⟨rfl, rfl⟩))
  (fun os started H enc _ => lifted os started H enc)
end commitHidesP
/-- for every number, list of naturals and number: in one of the three groups, of a list of 1 to 7, the first commitment and one share less than there are coefficients, whichever they are, tell all commitments; no condition. -/
theorem commitHides_holds : Rows.CommitHidesSaid := commitHidesP.over
end Go.Proofs.YtgdalihjpemjiaaGreat
