/- tape's isGroup, nextTry, Draw, Draws. -/
import Derived.Test.YtlacmkliofnjcaaDoorTpFun
namespace Go.Proofs.YtlacmkliofnjcaaDoor
open Go.RowKit
set_option linter.unusedVariables false
theorem take_trim (l : List UInt8) (h : l.length ≤ 32) : takeN ⟨(trimL l).toArray⟩ = natB l ∧ takeE ⟨(trimL l).toArray⟩ = 0 := by
 have hb : badB ⟨(trimL l).toArray⟩ = false := by
  unfold badB
  have h1 := trimL_len l
  have h2 := trimL_head l
  rw [ysize]
  rw [decide_eq_false (by omega), Bool.false_or, Bool.and_eq_false_iff]
  right
  simpa using h2
 unfold takeN takeE
 rw [if_neg (by rw [hb]; decide), if_neg (by rw [hb]; decide)]
 exact ⟨trimL_natB l, rfl⟩
theorem tpw1 (b : Nat) (h : b ≤ 256) : IntKind.i64.wrap (((b + 8 : Nat) : Int) - 1) = ((b + 7 : Nat) : Int) := by rw [IntKind.wrap_i64]; omega
theorem tpw2 (b : Nat) (h : b ≤ 256) : IntKind.i64.wrap (((b + 7 : Nat) : Int).tdiv 8) = (((b + 7) / 8 : Nat) : Int) := by
 rw [show (8 : Int) = ((8 : Nat) : Int) from rfl, ← Int.ofNat_tdiv, IntKind.wrap_i64]
 omega
theorem tpw3 (b : Nat) (h : b ≤ 256) : IntKind.i64.wrap ((256 : Int) - (b : Int)) = ((256 - b : Nat) : Int) := by rw [IntKind.wrap_i64]; omega
set_option maxRecDepth 100000 in
set_option maxHeartbeats 2000000 in
theorem isGroup_core (v : Option Addr) (P Q G : Nat) (r f : Option Addr) (B : Bool) (w : World) (hB : (!decide (Q % 2 ^ 256 = 0 % 2 ^ 256)) = B) (h : KnAt w v P Q G r f) :
  Calls Tryd.prog 32 #[.pointer v] w fun e w' => e = .returned (.bool B) ∧ Below w.heap.size w w' := by
 have hq := fun w' (hb : Below w.heap.size w w') => grpQ_any v P Q G r f w' (h.below hb)
 clear h
 go_enter Tryd.func32, Tryd.ntmps32
 have sb := sbmk w
 (repeat ((fail_if_success with_reducible refine rg ?_); go_step))
 refine wp_region_pw ?_
 refine pw_value (by rfl) (.bool false) (fun _ => rfl) ?_
 simp only [Act.put, pu]
 refine pw_nil ?_
 (repeat ((fail_if_success with_reducible refine rg ?_); go_step))
 refine wp_region_pw ?_
 refine pw_mv (by rfl) rfl rfl ?_
 simp only [Act.put, pu]
 refine pw_callB (by rfl) 33 _ _ rfl Tryd.func33 (by kernel_rfl) #[.pointer v] rfl _ (hq _ sb) ?_
 intro z1001 k
 simp only [Act.put, pu]
 replace sb := sb.trans (k.below w.heap.size sb.size (by simp <;> omega))
 clear k
 refine pw_value (by rfl) (.agg (natC 0)) (exec_build0 _ rfl _ built_nat) ?_
 simp only [Act.put, pu]
 refine pw_value (by rfl) (.bool B) (fun w' => (exec_neq_nat _ _ _ rfl Q 0 rfl rfl w').trans (by rw [hB])) ?_
 simp only [Act.put, pu]
 refine pw_as (by rfl) rfl rfl ?_
 simp only [Act.put, pu]
 refine pw_nil ?_
 go_wp2
 go_ret
 exact ⟨rfl, sb⟩
theorem isGroup_yes (v : Option Addr) (P Q G : Nat) (r f : Option Addr) (w : World) (h0 : 0 < Q) (h1 : Q < 2 ^ 256) (h : KnAt w v P Q G r f) :
  Calls Tryd.prog 32 #[.pointer v] w fun e w' => e = .returned (.bool true) ∧ Below w.heap.size w w' :=
 isGroup_core v P Q G r f true w (by rw [Nat.mod_eq_of_lt h1, Nat.zero_mod, decide_eq_false (by omega)]; rfl) h
theorem isGroup_no (v : Option Addr) (w : World) (h : NoG w v) :
  Calls Tryd.prog 32 #[.pointer v] w fun e w' => e = .returned (.bool false) ∧ Below w.heap.size w w' :=
 isGroup_core v 0 0 0 none none false w (by rw [decide_eq_true rfl]; rfl) h
set_option maxRecDepth 100000 in
set_option maxHeartbeats 2000000 in
theorem nextTry_few (g0 b : Nat) (s : List UInt8) (w : World) (hb : b ≤ 256) (hf : s.length < (b + 7) / 8) (r0 : Row w g0 (tpC true s) 62) :
  Calls Tryd.prog 34 #[.pointer (some ⟨g0, 0, none⟩), .int .i64 b] w fun e w' => e = .returned (.tuple #[.agg (natC 0), .int .i64 5]) ∧ Below w.heap.size w w' := by
 go_enter Tryd.func34, Tryd.ntmps34
 have sb := sbmk w
 (repeat ((fail_if_success with_reducible refine rg ?_); go_step))
 refine wp_region_pw ?_
 refine pw_new (by rfl) 35 rfl _ zero_nat ?_
 intro g4 z0 n0 r4 k
 simp only [Act.put, pu]
 have d0x4 := Nat.lt_of_lt_of_le r0.lt n0
 have b4 := Nat.le_trans sb.size n0
 clear n0
 replace r0 := k.row r0 (by simp <;> omega)
 replace sb := sb.trans (k.below w.heap.size sb.size (by simp <;> omega))
 clear k
 refine pw_value (by rfl) (.int .i64 0) (fun _ => rfl) ?_
 simp only [Act.put, pu]
 refine pw_nil ?_
 (repeat ((fail_if_success with_reducible refine rg ?_); go_step))
 refine wp_region_pw ?_
 refine pw_mv (by rfl) rfl rfl ?_
 simp only [Act.put, pu]
 refine pw_mv (by rfl) rfl rfl ?_
 simp only [Act.put, pu]
 refine pw_value (by rfl) (.int .i64 ((b + 8 : Nat) : Int)) (exec_add_in _ _ _ _ rfl b 8 rfl rfl (by omega)) ?_
 simp only [Act.put, pu]
 refine pw_value (by rfl) (.int .i64 ((b + 7 : Nat) : Int)) (y_subI _ _ _ _ rfl ((b + 8 : Nat) : Int) 1 _ rfl rfl (tpw1 b hb)) ?_
 simp only [Act.put, pu]
 refine pw_value (by rfl) (.int .i64 (((b + 7) / 8 : Nat) : Int)) (y_quoI _ _ _ _ rfl ((b + 7 : Nat) : Int) 8 _ rfl rfl (by decide) (tpw2 b hb)) ?_
 simp only [Act.put, pu]
 refine pw_callB (by rfl) 9 _ _ rfl Tryd.func9 (by kernel_rfl) #[.pointer (some ⟨g0, 0, none⟩), .int .i64 (((b + 7) / 8 : Nat) : Int)] rfl _ (tbytes_more g0 s (((b + 7) / 8 : Nat) : Int) _ (by omega) (by omega) r0) ?_
 intro z1005 k
 simp only [Act.put, pu]
 replace r0 := k.row r0 (by simp <;> omega)
 replace r4 := k.row r4 (by simp <;> omega)
 replace sb := sb.trans (k.below w.heap.size sb.size (by simp <;> omega))
 clear k
 refine pw_mv (by rfl) rfl rfl ?_
 simp only [Act.put, pu]
 refine pw_ext (by rfl) rfl rfl rfl ?_
 simp only [Act.put, pu]
 refine pw_ext (by rfl) rfl rfl rfl ?_
 simp only [Act.put, pu]
 refine pw_as (by rfl) rfl rfl ?_
 simp only [Act.put, pu]
 refine pw_as (by rfl) rfl rfl ?_
 simp only [Act.put, pu]
 refine pw_nil ?_
 (repeat ((fail_if_success with_reducible refine rg ?_); go_step))
 refine wp_region_pw ?_
 refine pw_mv (by rfl) rfl rfl ?_
 simp only [Act.put, pu]
 refine pw_value (by rfl) (.bool true) (exec_neq_k .i64 _ _ _ _ rfl 5 0 rfl rfl true rfl) ?_
 simp only [Act.put, pu]
 refine pw_nil ?_
 (repeat ((fail_if_success with_reducible refine rg ?_); go_step))
 refine wp_region_pw ?_
 refine pw_value (by rfl) (.agg (natC 0)) (exec_build0 _ rfl _ built_nat) ?_
 simp only [Act.put, pu]
 refine pw_mv (by rfl) rfl rfl ?_
 simp only [Act.put, pu]
 refine pw_put (by rfl) 35 _ _ rfl _ rfl r4 (natC 0) rfl (by exact size_nat) (by simp only [natC_size]) (natC_one _) ?_
 clear r4
 intro z3002 r4 k
 simp only [Act.put]
 replace sb := sb.trans (k.below w.heap.size sb.size (by simp <;> omega))
 clear k
 refine pw_as (by rfl) rfl rfl ?_
 simp only [Act.put, pu]
 refine pw_nil ?_
 go_wp2
 exact ret_row2 rfl _ rfl r4 4 _ Tryd.underlying35 (by exact size_nat) rfl _ rfl ⟨rfl, sb⟩
set_option maxRecDepth 100000 in
set_option maxHeartbeats 2000000 in
theorem nextTry_core (g0 b nb U X V : Nat) (s hd h2 tl : List UInt8) (w : World) (hb : b ≤ 256) (hnb : IntKind.i64.wrap (((b + 7 : Nat) : Int).tdiv 8) = (nb : Int)) (r0 : Row w g0 (tpC true s) 62)
  (hby : ∀ w', Row w' g0 (tpC true s) 62 → Calls Tryd.prog 9 #[.pointer (some ⟨g0, 0, none⟩), .int .i64 (nb : Nat)] w' fun e w2 => e = .returned (.tuple #[.string ⟨(hd).toArray⟩, .int .i64 0]) ∧ Row w2 g0 (tpC true tl) 62 ∧ Kept [g0] w' w2)
  (htl : ∀ w', Calls Tryd.prog 51 #[.string ⟨(hd).toArray⟩, .string { data := #[0] }] w' fun e w2 => e = .returned (.string ⟨(h2).toArray⟩) ∧ Below w'.heap.size w' w2)
  (htk : ∀ w', Calls Tryd.prog 50 #[.string ⟨(h2).toArray⟩] w' fun e w2 => e = .returned (.tuple #[.agg (natC U), .int .i64 0]) ∧ Below w'.heap.size w' w2)
  (hup : ∀ w', Calls Tryd.prog 53 #[.agg (natC U), .int .i64 ((256 - b : Nat) : Int)] w' fun e w2 => e = .returned (.agg (natC X)) ∧ Below w'.heap.size w' w2)
  (hdn : ∀ w', Calls Tryd.prog 52 #[.agg (natC X), .int .i64 ((256 - b : Nat) : Int)] w' fun e w2 => e = .returned (.agg (natC V)) ∧ Below w'.heap.size w' w2) :
  Calls Tryd.prog 34 #[.pointer (some ⟨g0, 0, none⟩), .int .i64 b] w fun e w' => e = .returned (.tuple #[.agg (natC V), .int .i64 0]) ∧ Row w' g0 (tpC true tl) 62 ∧ Kept [g0] w w' := by
 go_enter Tryd.func34, Tryd.ntmps34
 have sk := Kept.refl [g0] w
 (repeat ((fail_if_success with_reducible refine rg ?_); go_step))
 refine wp_region_pw ?_
 refine pw_new (by rfl) 35 rfl _ zero_nat ?_
 intro g4 z0 n0 r4 k
 simp only [Act.put, pu]
 have d0x4 := Nat.lt_of_lt_of_le r0.lt n0
 have b4 := Nat.le_trans sk.size n0
 clear n0
 replace r0 := k.row r0 (by simp <;> omega)
 replace sk := sk.trans k (by simp <;> omega)
 clear k
 refine pw_value (by rfl) (.int .i64 0) (fun _ => rfl) ?_
 simp only [Act.put, pu]
 refine pw_nil ?_
 (repeat ((fail_if_success with_reducible refine rg ?_); go_step))
 refine wp_region_pw ?_
 refine pw_mv (by rfl) rfl rfl ?_
 simp only [Act.put, pu]
 refine pw_mv (by rfl) rfl rfl ?_
 simp only [Act.put, pu]
 refine pw_value (by rfl) (.int .i64 ((b + 8 : Nat) : Int)) (exec_add_in _ _ _ _ rfl b 8 rfl rfl (by omega)) ?_
 simp only [Act.put, pu]
 refine pw_value (by rfl) (.int .i64 ((b + 7 : Nat) : Int)) (y_subI _ _ _ _ rfl ((b + 8 : Nat) : Int) 1 _ rfl rfl (tpw1 b hb)) ?_
 simp only [Act.put, pu]
 refine pw_value (by rfl) (.int .i64 (nb : Int)) (y_quoI _ _ _ _ rfl ((b + 7 : Nat) : Int) 8 _ rfl rfl (by decide) hnb) ?_
 simp only [Act.put, pu]
 refine pw_callE (by rfl) 9 _ _ rfl Tryd.func9 (by kernel_rfl) #[.pointer (some ⟨g0, 0, none⟩), .int .i64 (nb : Int)] rfl (hby _ r0) ?_
 clear r0
 rintro _ z1005 ⟨rfl, r0, k⟩
 refine ⟨_, rfl, ?_⟩
 simp only [Act.put, pu]
 replace r4 := k.row r4 (by simp <;> omega)
 replace sk := sk.trans k (by simp <;> omega)
 clear k
 refine pw_mv (by rfl) rfl rfl ?_
 simp only [Act.put, pu]
 refine pw_ext (by rfl) rfl rfl rfl ?_
 simp only [Act.put, pu]
 refine pw_ext (by rfl) rfl rfl rfl ?_
 simp only [Act.put, pu]
 refine pw_as (by rfl) rfl rfl ?_
 simp only [Act.put, pu]
 refine pw_as (by rfl) rfl rfl ?_
 simp only [Act.put, pu]
 refine pw_nil ?_
 (repeat ((fail_if_success with_reducible refine rg ?_); go_step))
 refine wp_region_pw ?_
 refine pw_mv (by rfl) rfl rfl ?_
 simp only [Act.put, pu]
 refine pw_value (by rfl) (.bool false) (exec_neq_k .i64 _ _ _ _ rfl 0 0 rfl rfl false rfl) ?_
 simp only [Act.put, pu]
 refine pw_nil ?_
 (repeat ((fail_if_success with_reducible refine rg ?_); go_step))
 refine wp_region_pw ?_
 refine pw_mv (by rfl) rfl rfl ?_
 simp only [Act.put, pu]
 refine pw_callB (by rfl) 51 _ _ rfl Tryd.func51 (by kernel_rfl) #[.string ⟨(hd).toArray⟩, .string { data := #[0] }] rfl _ (htl _) ?_
 intro z4001 k
 simp only [Act.put, pu]
 replace r0 := k.row r0 (by simp <;> omega)
 replace r4 := k.row r4 (by simp <;> omega)
 replace sk := sk.trans k (by simp <;> omega)
 clear k
 refine pw_callB (by rfl) 50 _ _ rfl Tryd.func50 (by kernel_rfl) #[.string ⟨(h2).toArray⟩] rfl _ (htk _) ?_
 intro z4002 k
 simp only [Act.put, pu]
 replace r0 := k.row r0 (by simp <;> omega)
 replace r4 := k.row r4 (by simp <;> omega)
 replace sk := sk.trans k (by simp <;> omega)
 clear k
 refine pw_mv (by rfl) rfl rfl ?_
 simp only [Act.put, pu]
 refine pw_ext (by rfl) rfl rfl rfl ?_
 simp only [Act.put, pu]
 refine pw_ext (by rfl) rfl rfl rfl ?_
 simp only [Act.put, pu]
 refine pw_new (by rfl) 35 rfl _ zero_nat ?_
 intro g8 z4006 n0 r8 k
 simp only [Act.put, pu]
 have d0x8 := Nat.lt_of_lt_of_le r0.lt n0
 have d4x8 := Nat.lt_of_lt_of_le r4.lt n0
 have b8 := Nat.le_trans sk.size n0
 clear n0
 replace r0 := k.row r0 (by simp <;> omega)
 replace r4 := k.row r4 (by simp <;> omega)
 replace sk := sk.trans k (by simp <;> omega)
 clear k
 refine pw_put (by rfl) 35 _ _ rfl _ rfl r8 (natC U) rfl (by exact size_nat) (by simp only [natC_size]) (natC_one _) ?_
 clear r8
 intro z4007 r8 k
 simp only [Act.put]
 replace r0 := k.row r0 (by simp <;> omega)
 replace r4 := k.row r4 (by simp <;> omega)
 replace sk := sk.trans k (by simp <;> omega)
 clear k
 refine pw_as (by rfl) rfl rfl ?_
 simp only [Act.put, pu]
 refine pw_nil ?_
 (repeat ((fail_if_success with_reducible refine rg ?_); go_step))
 refine wp_region_pw ?_
 refine pw_mv (by rfl) rfl rfl ?_
 simp only [Act.put, pu]
 refine pw_value (by rfl) (.int .i64 ((256 - b : Nat) : Int)) (y_subI _ _ _ _ rfl 256 (b : Int) _ rfl rfl (tpw3 b hb)) ?_
 simp only [Act.put, pu]
 refine pw_as (by rfl) rfl rfl ?_
 simp only [Act.put, pu]
 refine pw_nil ?_
 (repeat ((fail_if_success with_reducible refine rg ?_); go_step))
 refine wp_region_pw ?_
 refine pw_loadm (by rfl) 35 _ rfl _ 0 rfl r8.r _ (part_all _) _ Tryd.underlying35 rfl size_nat ?_
 simp only [Act.put, pu]
 refine pw_mv (by rfl) rfl rfl ?_
 simp only [Act.put, pu]
 refine pw_callB (by rfl) 53 _ _ rfl Tryd.func53 (by kernel_rfl) #[.agg (natC U), .int .i64 ((256 - b : Nat) : Int)] rfl _ (hup _) ?_
 intro z6002 k
 simp only [Act.put, pu]
 replace r0 := k.row r0 (by simp <;> omega)
 replace r4 := k.row r4 (by simp <;> omega)
 replace r8 := k.row r8 (by simp <;> omega)
 replace sk := sk.trans k (by simp <;> omega)
 clear k
 refine pw_mv (by rfl) rfl rfl ?_
 simp only [Act.put, pu]
 refine pw_callB (by rfl) 52 _ _ rfl Tryd.func52 (by kernel_rfl) #[.agg (natC X), .int .i64 ((256 - b : Nat) : Int)] rfl _ (hdn _) ?_
 intro z6004 k
 simp only [Act.put, pu]
 replace r0 := k.row r0 (by simp <;> omega)
 replace r4 := k.row r4 (by simp <;> omega)
 replace r8 := k.row r8 (by simp <;> omega)
 replace sk := sk.trans k (by simp <;> omega)
 clear k
 refine pw_put (by rfl) 35 _ _ rfl _ rfl r4 (natC V) rfl (by exact size_nat) (by simp only [natC_size]) (natC_one _) ?_
 clear r4
 intro z6005 r4 k
 simp only [Act.put]
 replace r0 := k.row r0 (by simp <;> omega)
 replace r8 := k.row r8 (by simp <;> omega)
 replace sk := sk.trans k (by simp <;> omega)
 clear k
 refine pw_value (by rfl) (.int .i64 0) (fun _ => rfl) ?_
 simp only [Act.put, pu]
 refine pw_nil ?_
 go_wp2
 exact ret_row2 rfl _ rfl r4 4 _ Tryd.underlying35 (by exact size_nat) rfl _ rfl ⟨rfl, r0, sk⟩
theorem nextTry_ok (g0 b : Nat) (s : List UInt8) (w : World) (hb : b ≤ 256) (hf : (b + 7) / 8 ≤ s.length) (r0 : Row w g0 (tpC true s) 62) :
  Calls Tryd.prog 34 #[.pointer (some ⟨g0, 0, none⟩), .int .i64 b] w fun e w' => e = .returned (.tuple #[.agg (natC (natB (s.take ((b + 7) / 8)) % 2 ^ b)), .int .i64 0]) ∧ Row w' g0 (tpC true (s.drop ((b + 7) / 8))) 62 ∧ Kept [g0] w w' := by
 have hnb := tpw2 b hb
 generalize (b + 7) / 8 = nb at *
 have hl32 : (s.take nb).length ≤ 32 := by
  have h1 : (nb : Int) ≤ 32 := by
   rw [← hnb, tpw2 b hb]
   omega
  rw [List.length_take]
  omega
 have htl := fun w' => trimLeft_any (s.take nb) w'
 have htk := fun w' => ntake_any ⟨(trimL (s.take nb)).toArray⟩ w'
 obtain ⟨e1, e2⟩ := take_trim (s.take nb) hl32
 rw [e1, e2] at htk
 have hup := fun w' => nup_any (natB (s.take nb)) ((256 - b : Nat) : Int) w'
 rw [Int.toNat_natCast, ← natC_full (natB (s.take nb) * 2 ^ (256 - b))] at hup
 have hdn := fun w' => ndown_any (natB (s.take nb) * 2 ^ (256 - b) % 2 ^ 256) ((256 - b : Nat) : Int) w' (Nat.mod_lt _ (Nat.two_pow_pos _))
 rw [Int.toNat_natCast, updown _ _ hb] at hdn
 exact nextTry_core g0 b nb (natB (s.take nb)) (natB (s.take nb) * 2 ^ (256 - b) % 2 ^ 256) (natB (s.take nb) % 2 ^ b) s (s.take nb) (trimL (s.take nb)) (s.drop nb) w hb hnb r0 (fun w' h => tbytes_ok g0 s nb w' hf h) htl htk hup hdn
end Go.Proofs.YtlacmkliofnjcaaDoor
