import Derived.Test.YtfhgdgnhcmakhaaGreatSA
import Derived.Test.YtfhgdgnhcmakhaaGreatPZ
namespace Go.Proofs.YtfhgdgnhcmakhaaGreat
open Go.RowKit
set_option linter.unusedVariables false
set_option linter.unusedSectionVars false
theorem litS1 (i : Int) (y k : Nat) (hk : k = 5) : Instr.fill (fun i => some (i * k, k)) ((Array.range (1 * k)).map ((Value.agg #[.int .i64 0, .int .u64 0, .int .u64 0, .int .u64 0, .int .u64 0]).cells[· % (Value.agg #[.int .i64 0, .int .u64 0, .int .u64 0, .int .u64 0, .int .u64 0]).cells.size]!)) [(0, .agg (shC i y))] = some (shC i y) := by
 subst hk
 unfold shC natC
 generalize lm y 0 = a
 generalize lm y 1 = b
 generalize lm y 2 = c
 generalize lm y 3 = d
 kernel_rfl
set_option maxRecDepth 100000 in
set_option maxHeartbeats 2000000 in
theorem rdealS {Q : Nat} [NeZero Q] (v : Value) (L : List (Fin Q)) (n : Nat) (w : World) (hn : n ≤ 7) (hl : L.length ≤ 4000) (q : FdQ Q) (hq : Q < 4611686018427387904) (h : IlAt w v L) :
  Calls Tryz.prog 9 #[v, .int .i64 n, .int .i64 (Q : Nat)] w fun e w' => ∃ ap cp gp cur, e = .returned (.slice ap n cp) ∧ ElsAt 5 w' ap n (fun k => shC ((k + 1 : Nat) : Int) (pev (fi (k + 1)) L).val) gp 0 cur 43 ∧ Below w.heap.size w w' := by
 obtain ⟨ie, hie, hz, hsz, hby⟩ := info_shb
 have hs1 : ¬ 1 * ie.size > 2 ^ 24 := by rw [hsz]; decide
 have hs2 : ¬ 1 * ie.size = 0 := by rw [hsz]; decide
 have hev := fun (x : Nat) w' (hb : Below w.heap.size w w') => revL v L x w' hl q hq (h.below hb)
 have hin := fun (x : Nat) w' => rint_any (((pev (fi x) L).val : Nat) : Int) w' (by have := (pev (fi x) L).isLt; omega)
 simp only [Int.toNat_natCast] at hin
 obtain ⟨YY, hYY⟩ : ∃ YY : Nat → Nat, ∀ k, YY k = (pev (fi k) L).val := ⟨_, fun _ => rfl⟩
 simp only [← hYY] at hev hin ⊢
 have HLi : Hid (∀ i y, Instr.fill (fun i => some (i * ie.size, ie.size)) ((Array.range (1 * ie.size)).map ((Value.agg #[.int .i64 0, .int .u64 0, .int .u64 0, .int .u64 0, .int .u64 0]).cells[· % (Value.agg #[.int .i64 0, .int .u64 0, .int .u64 0, .int .u64 0, .int .u64 0]).cells.size]!)) [(0, .agg (shC i y))] = some (shC i y)) := fun i y => litS1 i y _ hsz
 obtain ⟨CC, hCC⟩ : ∃ CC : Nat → Array Value, CC = fun k => shC ((k + 1 : Nat) : Int) (YY (k + 1)) := ⟨_, rfl⟩
 have HC5 : Hid (∀ k, (CC k).size = 5) := fun k => by rw [hCC]; rfl
 have HCo : Hid (∀ k, (CC k).all (·.oneCell') = true) := fun k => by rw [hCC]; exact sh_one _ _
 have HCC : Hid (∀ k, shC ((k + 1 : Nat) : Int) (YY (k + 1)) = CC k) := fun k => by rw [hCC]
 have HCE : Hid (CC = fun k => shC ((k + 1 : Nat) : Int) (YY (k + 1))) := hCC
 clear hYY hCC h
 go_enter Tryz.func9, Tryz.ntmps9
 have sb := sbmk w
 repeat ((fail_if_success with_reducible apply rg); go_step)
 refine rp ?_
 refine pw_value (by rfl) (.slice none 0 0) ((fun _ => rfl)) ?_
 simp only [pv]
 refine pw_nil ?_
 repeat ((fail_if_success with_reducible apply rg); go_step)
 refine rp ?_
 refine pw_value (by rfl) (.slice none 0 0) ((fun _ => rfl)) ?_
 simp only [pv]
 refine pw_nil ?_
 repeat ((fail_if_success with_reducible apply rg); go_step)
 refine rp ?_
 refine pw_value (by rfl) (.int .i64 1) (fun _ => rfl) ?_
 simp only [pv]
 refine pw_nil ?_
 go_wp2_with fail
 go_loopg [7, 8] n (fun x s7 s8 wr => ∃ i : Nat, i + x = n ∧ s8 = .int .i64 ((i + 1 : Nat) : Int) ∧ OwnE 5 43 wr w.heap.size s7 i CC ∧ Below w.heap.size w wr)
 case atStart => exact ⟨0, by omega, rfl, ownE_nil _ _ _ _, sb⟩
 case round =>
  clear sb
  obtain ⟨i, hi, rfl, hP, sb⟩ := hrel
  cases gk with
  | zero =>
   obtain rfl : i = n := by omega
   clear hi
   obtain ⟨ap, cp, gp, cur, rfl, hcp, hpp⟩ := ownE_els HC5.out hP
   rw [HCE.out] at hpp
   clear hP
   repeat ((fail_if_success with_reducible apply rg); go_step)
   refine rp ?_
   refine pw_mv (by rfl) rfl rfl ?_
   refine pw_mv (by rfl) rfl rfl ?_
   simp only [pv]
   refine pw_value (by rfl) (.bool false) (exec_leq_i _ _ _ _ rfl ((i + 1 : Nat) : Int) i rfl rfl false (decide_eq_false (by omega))) ?_
   simp only [pv]
   refine pw_nil ?_
   repeat ((fail_if_success with_reducible apply rg); go_step)
   refine rp ?_
   refine pw_mv (by rfl) rfl rfl ?_
   refine pw_as (by rfl) rfl rfl ?_
   simp only [pv]
   refine pw_nil ?_
   go_wp2
   go_ret
   exact ⟨_, _, _, _, rfl, hpp, sb⟩
  | succ x =>
   have hlt : i < n := by omega
   have hek := hev (i + 1)
   have hik := hin (i + 1)
   have hli := HLi.out ((i + 1 : Nat) : Int) (YY (i + 1))
   rw [HCC.out i] at hli
   clear hev hin
   repeat ((fail_if_success with_reducible apply rg); go_step)
   refine rp ?_
   refine pw_mv (by rfl) rfl rfl ?_
   refine pw_mv (by rfl) rfl rfl ?_
   simp only [pv]
   refine pw_value (by rfl) (.bool true) (exec_leq_i _ _ _ _ rfl ((i + 1 : Nat) : Int) n rfl rfl true (decide_eq_true (by omega))) ?_
   simp only [pv]
   refine pw_nil ?_
   repeat ((fail_if_success with_reducible apply rg); go_step)
   refine rp ?_
   refine pw_mv (by rfl) rfl rfl ?_
   refine pw_mv (by rfl) rfl rfl ?_
   refine pw_mv (by rfl) rfl rfl ?_
   refine pw_mv (by rfl) rfl rfl ?_
   refine pw_mv (by rfl) rfl rfl ?_
   simp only [pv]
   refine pw_callB (by rfl) 19 _ _ rfl Tryz.func19 (by kernel_rfl) #[v, .int .i64 ((i + 1 : Nat) : Int), .int .i64 (Q : Nat)] rfl _ (hek _ sb) ?_
   intro z5005 k
   simp only [pv]
   replace hP := hP.on k (own_ne0 _)
   replace sb := kk sb k
   clear k
   refine pw_callB (by rfl) 28 _ _ rfl Tryz.func28 (by kernel_rfl) #[.int .i64 ((YY (i + 1) : Nat) : Int)] rfl _ (hik _) ?_
   intro z5006 k
   simp only [pv]
   replace hP := hP.on k (own_ne0 _)
   replace sb := kk sb k
   clear k
   refine pw_value (by rfl) (.agg (CC i)) (exec_buildv _ [(0, .tmp 15), (1, .tmp 20)] rfl [(0, .int .i64 ((i + 1 : Nat) : Int)), (1, .agg (natC (YY (i + 1))))] rfl (CC i) ((built_sh _ _).trans (by rw [HCC.out]))) ?_
   simp only [pv]
   refine pw_litr (by rfl) 27 43 1 _ rfl (CC i) ie _ Tryz.underlying27 hie hz hs1 hs2 [(0, .agg (CC i))] rfl hli ?_
   intro gA z5008 n0 rA k
   simp only [pv]
   have ehPxA := hP.new n0
   have bA := Nat.le_trans sb.size n0
   clear n0
   replace hP := hP.on k (own_ne0 _)
   replace sb := kk sb k
   clear k
   refine pw_appE (by rfl) _ _ (27) rfl (w.heap.size) 43 ie _ 5 40 Tryz.underlying27 hie hz hsz hby rfl (by decide) (by decide) (_) (i) (CC) (HC5.out) rfl hP gA _ rfl rA (HCo.out _) (by omega) sb.size ?_
   have h0 := hP
   clear hP
   intro v1 z5009 hP k hp
   simp only [pv]
   clear hp
   replace sb := sb.trans (k.below w.heap.size sb.size h0.base)
   clear h0
   clear k
   refine pw_as (by rfl) rfl rfl ?_
   simp only [pv]
   refine pw_nil ?_
   repeat ((fail_if_success with_reducible apply rg); go_step)
   refine rp ?_
   refine pw_mv (by rfl) rfl rfl ?_
   simp only [pv]
   refine pw_value (by rfl) (.int .i64 ((i + 1 + 1 : Nat) : Int)) (exec_add_in _ _ _ _ rfl (i + 1) 1 rfl rfl (by omega)) ?_
   refine pw_as (by rfl) rfl rfl ?_
   simp only [pv]
   refine pw_nil ?_
   go_wp2
   go_roundg x
   case measure => omega
   case rel => exact ⟨i + 1, by omega, rfl, hP, sb⟩
end Go.Proofs.YtfhgdgnhcmakhaaGreat
