import Derived.Test.YtgdalihjpemjiaaGreatPY
set_option maxRecDepth 100000
set_option maxHeartbeats 2000000
namespace Go.Proofs.YtgdalihjpemjiaaGreat
open Go.RowKit
set_option linter.unusedVariables false
theorem rsame_yes (n ca ce : Nat) (ab ae : Option Addr) (a' : Nat → Nat) (gb ob ge oe : Nat) (bcs ecs : Array Value) (tb te : TypeId) (w : World) (hn : n < 9223372036854775808) (hna : NatsAt w ab n a' gb ob bcs tb) (hnb : NatsAt w ae n a' ge oe ecs te) :
  Calls Tryz.prog 19 #[.slice ab n ca, .slice ae n ce] w fun e w' => e = .returned (.bool true) ∧ Below w.heap.size w w' := by
 have HB : Hid (NatsAt w ab n a' gb ob bcs tb) := hna
 have HE : Hid (NatsAt w ae n a' ge oe ecs te) := hnb
 clear hna hnb
 go_enter Tryz.func19, Tryz.ntmps19
 have sb := sbmk w
 iterate 2 go_step
 refine rp ?_;refine p_v (.bool false) (fun _ => rfl) (pw_nil ?_);simp only [pv]
 iterate 4 go_step
 refine rp ?_;refine p_m ?_;simp only [pv];refine p_v (.int .i64 n) (n_l ab n ca sl_natsX) ?_;refine p_m ?_;simp only [pv];refine p_v (.int .i64 n) (n_l ae n ce sl_natsX) ?_;simp only [pv];refine p_v (.bool false) (exec_neq_k .i64 _ _ _ _ rfl n n rfl rfl false (by rw [decide_eq_true rfl]; rfl)) (pw_nil ?_);simp only [pv]
 iterate 8 go_step
 refine rp ?_;refine p_v (.int .i64 0) (fun _ => rfl) (pw_nil ?_);simp only [pv]
 go_wp2_with fail
 go_loopg [5] n (fun g s5 wr => ∃ i : Nat, i + g = n ∧ s5 = .int .i64 i ∧ Below w.heap.size w wr)
 case atStart => exact ⟨0, by omega, rfl, sb⟩
 case round =>
  clear sb
  obtain ⟨i, hi, rfl, sb⟩ := hrel
  cases gk with
  | zero =>
   obtain rfl : i = n := by omega
   clear hi
   iterate 2 go_step
   refine rp ?_;refine p_m ?_;refine p_m ?_;simp only [pv];refine p_v (.int .i64 i) (n_l ab i ca sl_natsX) ?_;refine p_v (.bool false) (lt_f i i) (pw_nil ?_);simp only [pv]
   iterate 7 go_step
   refine rp ?_;refine p_v (.bool true) (fun _ => rfl) (pw_nil ?_);simp only [pv]
   go_wp2
   go_ret
   exact ⟨rfl, sb⟩
  | succ g =>
   have hlt : i < n := by omega
   iterate 2 go_step
   refine rp ?_;refine p_m ?_;refine p_m ?_;simp only [pv];refine p_v (.int .i64 n) (n_l ab n ca sl_natsX) ?_;refine p_v (.bool true) (lt_t i n) (pw_nil ?_);simp only [pv]
   obtain h0 | ⟨rfl, rB, hbt⟩ := (HB.out.below sb).at'
   ·exact absurd h0 (by omega)
   obtain h0 | ⟨rfl, rE, het⟩ := (HE.out.below sb).at'
   ·exact absurd h0 (by omega)
   have hbt' := hbt i hlt
   have het' := het i hlt
   clear hbt het
   iterate 9 go_step
   refine wp_region_qw (by kernel_rfl) (by kernel_rfl) ?_;refine q_m ?_;refine q_m ?_;simp only [pv];refine q_x i hlt Tryz.underlying22 size_nat4 ?_;simp only [pv];refine qw_loadmR (by rfl) 40 _ rfl _ (ob + i * 4) rfl rB (natC (a' i)) hbt' _ Tryz.underlying40 rfl size_nat ?_;refine q_m ?_;refine q_m ?_;simp only [pv];refine q_x i hlt Tryz.underlying22 size_nat4 ?_;simp only [pv];refine qw_loadmR (by rfl) 40 _ rfl _ (oe + i * 4) rfl rE (natC (a' i)) het' _ Tryz.underlying40 rfl size_nat ?_;simp only [pv];refine q_v (.bool false) ((fun w' => (exec_neq_nat _ _ _ rfl (a' i) (a' i) rfl rfl w').trans (by rw [neq_no]))) ?_;simp only [pv];refine qw_nil ?_;intro w6 hqb;replace sb := b_o sb hqb;clear hqb;clear rB rE hbt' het'
   iterate 6 go_step
   refine rp ?_;refine p_m ?_;simp only [pv];refine p_v (.int .i64 ((i + 1 : Nat) : Int)) (x_a i 1) ?_;refine p_a (pw_nil ?_);simp only [pv]
   go_wp2
   go_roundg g
   case measure => omega
   case rel => exact ⟨i + 1, by omega, rfl, sb⟩
def th3 (A B C i : Nat) : Nat := if i = 0 then A else if i = 1 then B else C
def smQ (a0 : Int) : Nat := lN (pk2 (pkB a0) otL leL) (3 - 2)
def smP (a0 : Int) : Nat := lN (pk2 (pkB a0) otL leL) (3 - 1)
def smG (a0 : Int) : Nat := pk2 (pkB a0) otG leG
theorem sm_0 : smQ 0 = 1966023127 ∧ smP 0 = 1055500680322183127 ∧ smG 0 = leG := by
 have h : pkB 0 = false := by decide
 unfold smQ smP smG
 rw [h]
 exact ⟨le_q, le_p, rfl⟩
instance : NeZero 1966023127 := ⟨by decide⟩
set_option linter.unusedSectionVars false
theorem sl_intsX : Tryz.prog.underlying 30 = some (.slice (Tryz.prog.elem 30)) := by kernel_rfl
theorem el_ints : Tryz.prog.elem 30 = 3 := by kernel_rfl
theorem size_eli (w : World) : (sizeOf (Tryz.prog.elem 30)).run Tryz.prog w = .ok 1 w := by rw [el_ints]; exact Tryz.sizeOf3 w
theorem lit_i1 (a : Int) (k : Nat) (hk : k = 1) : Instr.fill (fun i => some (i * k, k)) ((Array.range (1 * k)).map ((Value.int .i64 0).cells[· % (Value.int .i64 0).cells.size]!)) [(0, .int .i64 a)] = some #[.int .i64 a] := by
 subst hk
 kernel_rfl
theorem lit_i2 (a b : Int) (k : Nat) (hk : k = 1) : Instr.fill (fun i => some (i * k, k)) ((Array.range (2 * k)).map ((Value.int .i64 0).cells[· % (Value.int .i64 0).cells.size]!)) [(0, .int .i64 a), (1, .int .i64 b)] = some #[.int .i64 a, .int .i64 b] := by
 subst hk
 kernel_rfl
theorem made_ints (n : Nat) : madeCells (Value.int .i64 0).cells (n * 1) = isC n (fun _ => 0) := by
 apply Array.ext_getElem?
 intro i
 by_cases hi : i < n
 ·rw [isC_get n _ i hi]
  unfold madeCells
  simp [hi, Value.cells, Nat.mod_one]
 ·rw [Array.getElem?_eq_none (by rw [size_madeCells]; omega), Array.getElem?_eq_none (by rw [isC_size]; omega)]
section
variable {Q : Nat} [NeZero Q]
def IlAt (w : World) (v : Value) (L : List (Fin Q)) : Prop := ∃ ab c gb ob bcs tb, v = .slice ab L.length c ∧ L.length ≤ c ∧ NumsAt w ab L.length (fun i => (pco L i).val) gb ob bcs tb
theorem IlAt.below {w w' : World} {v : Value} {L : List (Fin Q)} (h : IlAt w v L) (hb : Below w.heap.size w w') : IlAt w' v L := by
 obtain ⟨ab, c, gb, ob, bcs, tb, h1, h2, h3⟩ := h
 exact ⟨ab, c, gb, ob, bcs, tb, h1, h2, h3.below hb⟩
theorem ilAt_nil (w : World) : IlAt w (.slice none 0 0) ([] : List (Fin Q)) := ⟨none, 0, 0, 0, #[], 0, rfl, Nat.le_refl _, ⟨.inl rfl⟩⟩
theorem ilAt_own {w : World} {base : Nat} {v : Value} {n : Nat} {u : Nat → Nat} {L : List (Fin Q)} (h : OwnI w base v n u) (hn : n = L.length) (hu : ∀ i, i < n → u i = (pco L i).val) : IlAt w v L := by
 have h0 := h
 subst hn
 obtain ⟨_, ⟨rfl, e⟩ | ⟨g, cap, cur, rfl, _, _, hc, _⟩⟩ := h
 ·exact ⟨none, 0, 0, 0, #[], 0, by rw [e], by omega, ⟨.inl e⟩⟩
 ·obtain ⟨_, gb, cur2, h2⟩ := ownI_nums h0
  exact ⟨_, cap, gb, 0, cur2, _, rfl, hc, h2.congr hu⟩
theorem vpco_lt (L : List (Fin Q)) (i : Nat) : (pco L i).val < Q := (pco L i).isLt
end
theorem rtrim_any (ab : Option Addr) (n c : Nat) (u : Nat → Nat) (gb ob : Nat) (bcs : Array Value) (tb : TypeId) (w : World) (hn : n < 9223372036854775808) (hc : n ≤ c) (hna : NumsAt w ab n u gb ob bcs tb) :
  Calls Tryz.prog 11 #[.slice ab n c] w fun e w' => e = .returned (.slice ab (yTn u n) c) ∧ Below w.heap.size w w' := by
 have HB : Hid (NumsAt w ab n u gb ob bcs tb) := hna
 clear hna
 go_enter Tryz.func11, Tryz.ntmps11
 have sb := sbmk w
 iterate 2 go_step
 refine rp ?_;refine p_v (.slice none 0 0) ((fun _ => rfl)) (pw_nil ?_);simp only [pv]
 iterate 3 go_step
 refine rp ?_;refine p_m ?_;simp only [pv];refine p_v (.int .i64 n) (n_l ab n c sl_intsX) ?_;refine p_a (pw_nil ?_);simp only [pv]
 go_wp2_with fail
 go_loopg [3] n (fun g s3 wr => g ≤ n ∧ s3 = .int .i64 (g : Nat) ∧ Hid (yTn u g = yTn u n) ∧ Below w.heap.size w wr)
 case atStart => exact ⟨Nat.le_refl n, rfl, (show yTn u n = yTn u n from rfl), sb⟩
 case round =>
  clear sb
  obtain ⟨hg, rfl, he, sb⟩ := hrel
  cases gk with
  | zero =>
   iterate 2 go_step
   refine rp ?_;refine p_m ?_;simp only [pv];refine p_v (.bool false) (exec_gt_i _ _ _ _ rfl ((0 : Nat) : Int) 0 rfl rfl false (decide_eq_false (by decide))) ?_;refine p_m ?_;refine p_s ?_;refine p_s ?_;refine p_s ?_;simp only [pv];refine p_s ?_;refine p_s ?_;refine p_s ?_;refine p_k false (.bool false) (pw_nil ?_);simp only [pv]
   iterate 7 go_step
   refine rp ?_;refine p_m ?_;refine p_m ?_;simp only [pv];refine p_v (.slice ab 0 c) (y_first _ _ _ rfl sl_intsX 1 size_eli _ n c 0 rfl rfl (by omega)) ?_;refine p_a (pw_nil ?_);simp only [pv]
   go_wp2
   go_ret
   exact ⟨by rw [← he.out]; rfl, sb⟩
  | succ m =>
   obtain h0 | ⟨rfl, rB, hbt⟩ := (HB.out.below sb).at'
   ·exact absurd h0 (by omega)
   have hbt' := hbt m (by omega)
   clear hbt
   by_cases hz : u m = 0
   ·have he' : Hid (yTn u m = yTn u n) := by
     show _ = _
     rw [← he.out]
     show _ = if u m = 0 then _ else _
     rw [if_pos hz]
    clear he
    iterate 2 go_step
    refine rp ?_;refine p_m ?_;simp only [pv];refine p_v (.bool true) (gt_t ((m + 1 : Nat) : Int) 0) ?_;refine p_m ?_;refine p_m ?_;refine p_m ?_;simp only [pv];refine p_v (.int .i64 ((m : Nat) : Int)) (exec_sub_in _ _ _ _ rfl (m + 1) 1 rfl rfl (by omega) (by omega)) ?_;simp only [pv];refine p_v (.pointer (some ⟨gb, ob + m * 1, none⟩)) ((exec_index_s 30 _ _ rfl gb ob (n) (c) rfl (m) rfl (by omega) _ Tryz.underlying30 1 Tryz.sizeOf3)) ?_;simp only [pv];refine p_d (ob + m * 1) rB (.int .i64 (u m : Nat)) hbt' Tryz.isAgg3 ?_;simp only [pv];refine p_v (.bool true) (exec_eql_k .i64 _ _ _ _ rfl (u m : Nat) 0 rfl rfl true (decide_eq_true (by omega))) ?_;refine p_k true (.bool true) (pw_nil ?_);simp only [pv];clear rB hz
    iterate 7 go_step
    refine rp ?_;refine p_m ?_;simp only [pv];refine p_v (.int .i64 ((m : Nat) : Int)) (exec_sub_in _ _ _ _ rfl (m + 1) 1 rfl rfl (by omega) (by omega)) ?_;refine p_a (pw_nil ?_);simp only [pv]
    go_wp2
    go_roundg m
    case measure => omega
    case rel => exact ⟨by omega, rfl, he', sb⟩
   ·have HE0 : Hid (m + 1 = yTn u n) := by
     show _ = _
     rw [← he.out]
     show _ = if u m = 0 then _ else _
     rw [if_neg hz]
    clear he
    iterate 2 go_step
    refine rp ?_;refine p_m ?_;simp only [pv];refine p_v (.bool true) (gt_t ((m + 1 : Nat) : Int) 0) ?_;refine p_m ?_;refine p_m ?_;refine p_m ?_;simp only [pv];refine p_v (.int .i64 ((m : Nat) : Int)) (exec_sub_in _ _ _ _ rfl (m + 1) 1 rfl rfl (by omega) (by omega)) ?_;simp only [pv];refine p_v (.pointer (some ⟨gb, ob + m * 1, none⟩)) ((exec_index_s 30 _ _ rfl gb ob (n) (c) rfl (m) rfl (by omega) _ Tryz.underlying30 1 Tryz.sizeOf3)) ?_;simp only [pv];refine p_d (ob + m * 1) rB (.int .i64 (u m : Nat)) hbt' Tryz.isAgg3 ?_;simp only [pv];refine p_v (.bool false) (exec_eql_k .i64 _ _ _ _ rfl (u m : Nat) 0 rfl rfl false (decide_eq_false (by omega))) ?_;refine p_k true (.bool false) (pw_nil ?_);simp only [pv];clear rB hz
    iterate 7 go_step
    refine rp ?_;refine p_m ?_;refine p_m ?_;simp only [pv];refine p_v (.slice (some ⟨gb, ob, none⟩) (m + 1) c) (y_first _ _ _ rfl sl_intsX 1 size_eli _ n c (m + 1) rfl rfl (by omega)) ?_;refine p_a (pw_nil ?_);simp only [pv]
    go_wp2
    go_ret
    exact ⟨by rw [← HE0.out]; rfl, sb⟩
theorem rtrimL {Q : Nat} [NeZero Q] (v : Value) (L : List (Fin Q)) (w : World) (hl : L.length ≤ 4000) (h : IlAt w v L) :
  Calls Tryz.prog 11 #[v] w fun e w' => ∃ v', e = .returned v' ∧ IlAt w' v' (ptrim L) ∧ Below w.heap.size w w' := by
 obtain ⟨ab, c, gb, ob, bcs, tb, rfl, hc, hna⟩ := h
 refine (rtrim_any ab L.length c _ gb ob bcs tb w (by omega) hc hna).mono ?_
 rintro e w' ⟨rfl, hb⟩
 obtain ⟨h1, h2⟩ := tn_of (q := Q) L.length (fun i => (pco L i).val) L (fun i _ => vpco_lt L i) (fun i => congrArg (fun l : List (Fin Q) => pco l i) (fl_of L))
 have h3 := (hna.below hb).take (yTn_le (fun i => (pco L i).val) L.length)
 have h4 := yTn_le (fun i => (pco L i).val) L.length
 rw [h1] at h2 h3 h4
 rw [h1]
 exact ⟨_, rfl, ⟨_, _, _, _, _, _, rfl, by omega, h3.congr h2⟩, hb⟩
def rEv (q : Nat) (u : Nat → Nat) (x : Nat) : Nat → Nat × Nat
 | 0 => (0, 1)
 | k + 1 => (((rEv q u x k).1 + u k * (rEv q u x k).2 % q) % q, (rEv q u x k).2 * x % q)
theorem rat_in (ab : Option Addr) (n c k : Nat) (u : Nat → Nat) (gb ob : Nat) (bcs : Array Value) (tb : TypeId) (w : World) (hk : k < n) (hna : NumsAt w ab n u gb ob bcs tb) :
  Calls Tryz.prog 131 #[.slice ab n c, .int .i64 (k : Nat)] w fun e w' => e = .returned (.int .i64 (u k : Nat)) ∧ Below w.heap.size w w' := by
 obtain h0 | ⟨rfl, rB, hbt⟩ := hna.at'
 ·exact absurd h0 (by omega)
 clear rB
 have hbt' := hbt k hk
 clear hbt
 go_enter Tryz.func131, Tryz.ntmps131
 have sb := sbmk w
 iterate 2 go_step
 refine rp ?_;refine p_v (.int .i64 0) (fun _ => rfl) (pw_nil ?_);simp only [pv]
 iterate 4 go_step
 refine rp ?_;refine p_m ?_;refine p_m ?_;simp only [pv];refine p_v (.int .i64 n) (n_l (some ⟨gb, ob, none⟩) n c sl_intsX) ?_;refine p_v (.bool true) (lt_t k n) (pw_nil ?_);simp only [pv]
 obtain h0 | ⟨_, rB, _⟩ := (hna.below sb).at'
 ·exact absurd h0 (by omega)
 iterate 4 go_step
 refine rp ?_;refine p_m ?_;refine p_m ?_;simp only [pv];refine p_x k hk Tryz.underlying30 Tryz.sizeOf3 ?_;simp only [pv];refine p_d (ob + k * 1) rB (.int .i64 (u k : Nat)) hbt' Tryz.isAgg3 ?_;refine p_a (pw_nil ?_);simp only [pv]
 go_wp2
 go_ret
 exact ⟨rfl, sb⟩
theorem rat_out (ab : Option Addr) (n c k : Nat) (w : World) (hk : n ≤ k) :
  Calls Tryz.prog 131 #[.slice ab n c, .int .i64 (k : Nat)] w fun e w' => e = .returned (.int .i64 ((0 : Nat) : Int)) ∧ Below w.heap.size w w' := by
 go_enter Tryz.func131, Tryz.ntmps131
 have sb := sbmk w
 iterate 2 go_step
 refine rp ?_;refine p_v (.int .i64 0) (fun _ => rfl) (pw_nil ?_);simp only [pv]
 iterate 4 go_step
 refine rp ?_;refine p_m ?_;refine p_m ?_;simp only [pv];refine p_v (.int .i64 n) (n_l ab n c sl_intsX) ?_;refine p_v (.bool false) (lt_f k n) (pw_nil ?_);simp only [pv]
 iterate 7 go_step
 refine rp ?_;refine p_v (.int .i64 0) (fun _ => rfl) (pw_nil ?_);simp only [pv]
 go_wp2
 go_ret
 exact ⟨rfl, sb⟩
theorem rat_any (ab : Option Addr) (n c k : Nat) (u : Nat → Nat) (gb ob : Nat) (bcs : Array Value) (tb : TypeId) (w : World) (hna : NumsAt w ab n u gb ob bcs tb) :
  Calls Tryz.prog 131 #[.slice ab n c, .int .i64 (k : Nat)] w fun e w' => e = .returned (.int .i64 (yCf n u k : Nat)) ∧ Below w.heap.size w w' := by
 unfold yCf
 by_cases h : k < n
 ·rw [if_pos h]
  exact rat_in ab n c k u gb ob bcs tb w h hna
 ·rw [if_neg h]
  exact rat_out ab n c k w (by omega)
theorem radd12_any (ab ae : Option Addr) (n c m ce q X : Nat) (u v2 : Nat → Nat) (gb ob ge oe : Nat) (bcs ecs : Array Value) (tb te : TypeId) (w : World) (hX : max n m = X) (hn : n ≤ 1000) (hm : m ≤ 1000) (h0 : 0 < q) (hq : q < 4611686018427387904) (hu : ∀ i, yCf n u i < q) (hv : ∀ i, yCf m v2 i < q) (hna : NumsAt w ab n u gb ob bcs tb) (hnb : NumsAt w ae m v2 ge oe ecs te) :
  Calls Tryz.prog 100 #[.slice ab n c, .slice ae m ce, .int .i64 (q : Nat)] w fun e w' => ∃ ax cx gx curx, e = .returned (.slice ax (yTn (fun k => (yCf n u k + yCf m v2 k) % q) X) cx) ∧ X ≤ cx ∧ NumsAt w' ax X (fun k => (yCf n u k + yCf m v2 k) % q) gx 0 curx 3 ∧ Below w.heap.size w w' := by
 obtain ⟨ie, hie, hz, hsz, _⟩ := info_int'
 have hs1 : ¬ 1 * ie.size > 2 ^ 24 := by rw [hsz]; decide
 have hs2 : ¬ 1 * ie.size = 0 := by rw [hsz]; decide
 have hl1 := fun a => lit_i1 a ie.size hsz
 have hX2 : (if (m : Int) > (n : Int) then (m : Int) else (n : Int)) = ((X : Nat) : Int) := by split <;> omega
 have hca := fun (k : Nat) w' (hb : Below w.heap.size w w') => rat_any ab n c k u gb ob bcs tb w' (hna.below hb)
 have hcb := fun (k : Nat) w' (hb : Below w.heap.size w w') => rat_any ae m ce k v2 ge oe ecs te w' (hnb.below hb)
 have had := fun (k : Nat) w' => radd8_any (yCf n u k) (yCf m v2 k) q w' h0 (by have := hu k; omega) (by have := hv k; omega)
 clear hna hnb hu hv hsz
 have HXb : X ≤ 1000 := by omega
 go_enter Tryz.func100, Tryz.ntmps100
 have sb := sbmk w
 iterate 2 go_step
 refine rp ?_;refine p_v (.slice none 0 0) ((fun _ => rfl)) (pw_nil ?_);simp only [pv]
 iterate 3 go_step
 refine rp ?_;refine p_v (.slice none 0 0) ((fun _ => rfl)) (pw_nil ?_);simp only [pv]
 iterate 4 go_step
 refine rp ?_;refine p_v (.int .i64 0) (fun _ => rfl) (pw_nil ?_);simp only [pv]
 go_wp2_with fail
 go_loopg [7, 8] X (fun g s7 s8 wr => ∃ i : Nat, i + g = X ∧ s8 = .int .i64 i ∧ OwnI wr w.heap.size s7 i (fun k => (yCf n u k + yCf m v2 k) % q) ∧ Below w.heap.size w wr)
 case atStart => exact ⟨0, by omega, rfl, ownI_nil _ _ _, sb⟩
 case round =>
  clear sb
  obtain ⟨i, hi, rfl, hL, sb⟩ := hrel
  cases gk with
  | zero =>
   obtain rfl : i = X := by omega
   clear hi hca hcb had
   obtain ⟨ax, cx, gx, curx, rfl, hcx, hx⟩ : ∃ ax cx gx curx, u7 = Value.slice ax i cx ∧ i ≤ cx ∧ NumsAt wr ax i (fun k => (yCf n u k + yCf m v2 k) % q) gx 0 curx 3 := by
    have h1 := hL
    obtain ⟨_, ⟨e1, e2⟩ | ⟨g, cap, cur, e1, _, _, hc, _⟩⟩ := hL
    ·subst e2
     exact ⟨none, 0, 0, #[], e1, Nat.le_refl _, ⟨.inl rfl⟩⟩
    ·rw [e1] at h1
     obtain ⟨_, gb', cur', h2⟩ := ownI_nums h1
     exact ⟨_, cap, gb', cur', e1, hc, h2⟩
   clear hL
   have htr := fun w' (h : NumsAt w' ax i (fun k => (yCf n u k + yCf m v2 k) % q) gx 0 curx 3) => rtrim_any ax i cx (fun k => (yCf n u k + yCf m v2 k) % q) gx 0 curx _ w' (by omega) hcx h
   iterate 2 go_step
   refine rp ?_;refine p_m ?_;refine p_m ?_;simp only [pv];refine p_v (.int .i64 n) (n_l ab n c sl_intsX) ?_;refine p_m ?_;simp only [pv];refine p_v (.int .i64 m) (n_l ae m ce sl_intsX) ?_;simp only [pv];refine p_v (.int .i64 ((i : Nat) : Int)) (y_max _ _ _ rfl n m _ rfl rfl hX2) ?_;refine p_v (.bool false) (lt_f i i) (pw_nil ?_);simp only [pv]
   iterate 7 go_step
   refine rp ?_;refine p_m ?_;simp only [pv];refine p_c 11 Tryz.func11 #[.slice ax i cx] (htr _ hx) ?_;intro z6001 k;simp only [pv];replace hx := hx.below k.nil;replace sb := kk sb k;clear k;refine p_a (pw_nil ?_);simp only [pv]
   go_wp2
   go_ret
   exact ⟨ax, cx, gx, curx, rfl, hcx, hx, sb⟩
  | succ g =>
   have hlt : i < X := by omega
   iterate 2 go_step
   refine rp ?_;refine p_m ?_;refine p_m ?_;simp only [pv];refine p_v (.int .i64 n) (n_l ab n c sl_intsX) ?_;refine p_m ?_;simp only [pv];refine p_v (.int .i64 m) (n_l ae m ce sl_intsX) ?_;simp only [pv];refine p_v (.int .i64 ((X : Nat) : Int)) (y_max _ _ _ rfl n m _ rfl rfl hX2) ?_;refine p_v (.bool true) (lt_t i X) (pw_nil ?_);simp only [pv]
   iterate 8 go_step
   refine rp ?_;refine p_m ?_;refine p_m ?_;refine p_m ?_;simp only [pv];refine p_c 131 Tryz.func131 #[.slice ab n c, .int .i64 (i : Nat)] (hca i _ sb) ?_;intro z5003 k;simp only [pv]
   replace hL := hL.on k (own_ne0 _)
   replace sb := kk sb k;clear k;refine p_m ?_;refine p_m ?_;simp only [pv];refine p_c 131 Tryz.func131 #[.slice ae m ce, .int .i64 (i : Nat)] (hcb i _ sb) ?_;intro z5006 k;simp only [pv]
   replace hL := hL.on k (own_ne0 _)
   replace sb := kk sb k;clear k;refine p_m ?_;simp only [pv];refine p_c 130 Tryz.func130 #[.int .i64 (yCf n u i : Nat), .int .i64 (yCf m v2 i : Nat), .int .i64 (q : Nat)] (had i _) ?_;intro z5008 k;simp only [pv]
   replace hL := hL.on k (own_ne0 _)
   replace sb := kk sb k;clear k;refine pw_litr (by rfl) 30 3 1 _ rfl #[.int .i64 ((yCf n u i + yCf m v2 i) % q : Nat)] ie _ Tryz.underlying30 hie hz hs1 hs2 [(0, .int .i64 ((yCf n u i + yCf m v2 i) % q : Nat))] rfl (hl1 _) ?_;intro gX z5009 n0 rX k;simp only [pv]
   have ehLxX := hL.new n0
   have bX := Nat.le_trans sb.size n0
   clear n0
   replace hL := hL.on k (own_ne0 _)
   replace sb := kk sb k;clear k;refine pw_appI (by rfl) _ _ rfl (w.heap.size) (_) (i) ((fun k => (yCf n u k + yCf m v2 k) % q)) rfl hL gX _ rfl rX (by omega) sb.size ?_
   have h0 := hL
   clear hL;intro v1 z5010 hL k hp;simp only [pv];clear hp
   replace sb := sb.trans (k.below w.heap.size sb.size h0.base)
   clear h0;clear k;refine p_a (pw_nil ?_);simp only [pv]
   iterate 2 go_step
   refine rp ?_;refine p_m ?_;simp only [pv];refine p_v (.int .i64 ((i + 1 : Nat) : Int)) (x_a i 1) ?_;refine p_a (pw_nil ?_);simp only [pv]
   go_wp2
   go_roundg g
   case measure => omega
   case rel => exact ⟨i + 1, by omega, rfl, hL, sb⟩
theorem yCf_il {Q : Nat} [NeZero Q] (L : List (Fin Q)) (i : Nat) : yCf L.length (fun i => (pco L i).val) i = (pco L i).val := by
 unfold yCf
 split
 ·rfl
 ·rw [pco_out L i (by omega)]; rfl
theorem raddL {Q : Nat} [NeZero Q] (va vb : Value) (La Lb : List (Fin Q)) (w : World) (ha : La.length ≤ 1000) (hb : Lb.length ≤ 1000) (q : FdQ Q) (hq : Q < 4611686018427387904) (h1 : IlAt w va La) (h2 : IlAt w vb Lb) :
  Calls Tryz.prog 100 #[va, vb, .int .i64 (Q : Nat)] w fun e w' => ∃ v', e = .returned v' ∧ IlAt w' v' (psum La Lb) ∧ Below w.heap.size w w' := by
 obtain ⟨ab, c, gb, ob, bcs, tb, rfl, hc, hna⟩ := h1
 obtain ⟨ae, ce, ge, oe, ecs, te, rfl, hce, hnb⟩ := h2
 refine (radd12_any ab ae La.length c Lb.length ce Q _ _ _ gb ob ge oe bcs ecs tb te w rfl ha hb q.pos hq (fun i => by rw [yCf_il]; exact vpco_lt La i) (fun i => by rw [yCf_il]; exact vpco_lt Lb i) hna hnb).mono ?_
 rintro e w' ⟨ax, cx, gx, curx, rfl, hcx, hx, hb'⟩
 have hL := fun i => ySm_of (q := Q) La.length (fun i => (pco La i).val) Lb.length (fun i => (pco Lb i).val) i
 rw [fl_of, fl_of] at hL
 obtain ⟨e1, e2⟩ := tn_of (max La.length Lb.length) (ySm (fO Q) La.length (fun i => (pco La i).val) Lb.length (fun i => (pco Lb i).val)) (padd La Lb) (fun i _ => Nat.mod_lt _ q.pos) hL
 have h3 := hx.take (yTn_le (ySm (fO Q) La.length (fun i => (pco La i).val) Lb.length (fun i => (pco Lb i).val)) (max La.length Lb.length))
 have h4 := yTn_le (ySm (fO Q) La.length (fun i => (pco La i).val) Lb.length (fun i => (pco Lb i).val)) (max La.length Lb.length)
 refine ⟨_, rfl, ⟨ax, cx, gx, 0, curx, 3, congrArg (fun k => Value.slice ax k cx) e1, ?_, ?_⟩, hb'⟩
 ·show (ptrim (padd La Lb)).length ≤ cx
  rw [← e1]
  omega
 ·show NumsAt w' ax (ptrim (padd La Lb)).length _ gx 0 curx _
  rw [← e1]
  exact h3.congr e2
theorem rall_any (ab : Option Addr) (n c q : Nat) (F : Nat → Nat) (gb ob : Nat) (bcs : Array Value) (tb : TypeId) (w : World) (hn : n ≤ 2000) (h0 : 0 < q) (hq : q < 4611686018427387904) (hna : NatsAt w ab n F gb ob bcs tb) :
  Calls Tryz.prog 12 #[.slice ab n c, .int .i64 (q : Nat)] w fun e w' => ∃ v', e = .returned v' ∧ OwnI w' w.heap.size v' n (fun i => F i % q) ∧ Below w.heap.size w w' := by
 obtain ⟨ie, hie, hz, hsz, _⟩ := info_int'
 have hs1 : ¬ 1 * ie.size > 2 ^ 24 := by rw [hsz]; decide
 have hs2 : ¬ 1 * ie.size = 0 := by rw [hsz]; decide
 have hl1 := fun a => lit_i1 a ie.size hsz
 have HB : Hid (NatsAt w ab n F gb ob bcs tb) := hna
 have hby := fun (k : Nat) w' (hk : k < n) => rby_any (F k) q w' (hna.lt k hk) h0 hq
 clear hna hsz
 go_enter Tryz.func12, Tryz.ntmps12
 have sb := sbmk w
 iterate 2 go_step
 refine rp ?_;refine p_v (.slice none 0 0) ((fun _ => rfl)) (pw_nil ?_);simp only [pv]
 iterate 3 go_step
 refine rp ?_;refine p_v (.slice none 0 0) ((fun _ => rfl)) (pw_nil ?_);simp only [pv]
 iterate 4 go_step
 refine rp ?_;refine p_v (.int .i64 0) (fun _ => rfl) (pw_nil ?_);simp only [pv]
 go_wp2_with fail
 go_loopg [5, 6] n (fun g s5 s6 wr => ∃ i : Nat, i + g = n ∧ s6 = .int .i64 i ∧ OwnI wr w.heap.size s5 i (fun i => F i % q) ∧ Below w.heap.size w wr)
 case atStart => exact ⟨0, by omega, rfl, ownI_nil _ _ _, sb⟩
 case round =>
  clear sb
  obtain ⟨i, hi, rfl, hL, sb⟩ := hrel
  cases gk with
  | zero =>
   obtain rfl : i = n := by omega
   clear hi hby
   iterate 2 go_step
   refine rp ?_;refine p_m ?_;refine p_m ?_;simp only [pv];refine p_v (.int .i64 i) (n_l ab i c sl_natsX) ?_;refine p_v (.bool false) (lt_f i i) (pw_nil ?_);simp only [pv]
   iterate 7 go_step
   refine rp ?_;refine p_m ?_;refine p_a (pw_nil ?_);simp only [pv]
   go_wp2
   go_ret
   exact ⟨_, rfl, hL, sb⟩
  | succ g =>
   have hlt : i < n := by omega
   have hb1 := fun w' => hby i w' hlt
   clear hby
   obtain h0 | ⟨rfl, rB, hbt⟩ := HB.out.at'
   ·exact absurd h0 (by omega)
   have hbt' := hbt i hlt
   clear hbt rB
   iterate 2 go_step
   refine rp ?_;refine p_m ?_;refine p_m ?_;simp only [pv];refine p_v (.int .i64 n) (n_l (some ⟨gb, ob, none⟩) n c sl_natsX) ?_;refine p_v (.bool true) (lt_t i n) (pw_nil ?_);simp only [pv]
   obtain h0 | ⟨_, rB, _⟩ := (HB.out.below sb).at'
   ·exact absurd h0 (by omega)
   iterate 8 go_step
   refine rp ?_;refine p_m ?_;refine p_m ?_;refine p_m ?_;simp only [pv];refine p_x i hlt Tryz.underlying22 size_nat4 ?_;simp only [pv];refine pw_loadm (by rfl) 40 _ rfl _ (ob + i * 4) rfl rB (natC (F i)) hbt' _ Tryz.underlying40 rfl size_nat ?_;refine p_m ?_;simp only [pv];refine p_c 35 Tryz.func35 #[.agg (natC (F i)), .int .i64 (q : Nat)] (hb1 _) ?_;intro z5006 k;simp only [pv]
   replace hL := hL.on k (own_ne0 _)
   replace sb := kk sb k;clear k;refine pw_litr (by rfl) 30 3 1 _ rfl #[.int .i64 (F i % q : Nat)] ie _ Tryz.underlying30 hie hz hs1 hs2 [(0, .int .i64 (F i % q : Nat))] rfl (hl1 _) ?_;intro gX z5007 n0 rX k;simp only [pv]
   have ehLxX := hL.new n0
   have bX := Nat.le_trans sb.size n0
   clear n0
   replace hL := hL.on k (own_ne0 _)
   replace sb := kk sb k;clear k;refine pw_appI (by rfl) _ _ rfl (w.heap.size) (_) (i) ((fun i => F i % q)) rfl hL gX _ rfl rX (by omega) sb.size ?_
   have h0 := hL
   clear hL;intro v1 z5008 hL k hp;simp only [pv];clear hp
   replace sb := sb.trans (k.below w.heap.size sb.size h0.base)
   clear h0;clear k;refine p_a (pw_nil ?_);simp only [pv]
   iterate 2 go_step
   refine rp ?_;refine p_m ?_;simp only [pv];refine p_v (.int .i64 ((i + 1 : Nat) : Int)) (x_a i 1) ?_;refine p_a (pw_nil ?_);simp only [pv]
   go_wp2
   go_roundg g
   case measure => omega
   case rel => exact ⟨i + 1, by omega, rfl, hL, sb⟩
theorem rallL {Q : Nat} [NeZero Q] (ab : Option Addr) (n c : Nat) (F : Nat → Nat) (gb ob : Nat) (bcs : Array Value) (tb : TypeId) (w : World) (hn : n ≤ 2000) (q : FdQ Q) (hq : Q < 4611686018427387904) (hna : NatsAt w ab n F gb ob bcs tb) :
  Calls Tryz.prog 12 #[.slice ab n c, .int .i64 (Q : Nat)] w fun e w' => ∃ v', e = .returned v' ∧ IlAt w' v' (fl n F : List (Fin Q)) ∧ Below w.heap.size w w' := by
 refine (rall_any ab n c Q F gb ob bcs tb w hn q.pos hq hna).mono ?_
 rintro e w' ⟨v', rfl, hL, hb⟩
 refine ⟨v', rfl, ilAt_own hL (by rw [fl_length]) fun i hi => ?_, hb⟩
 rw [fl_co _ _ _ hi]
 rfl
def rOut (q m : Nat) (A B : Nat → Nat) : Nat → Nat → Nat
 | 0, _ => 0
 | i + 1, j => if i ≤ j ∧ j < i + m then (rOut q m A B i j + A i * B (j - i) % q) % q else rOut q m A B i j
def rIn (q m : Nat) (A B : Nat → Nat) (i k j : Nat) : Nat := if i ≤ j ∧ j < i + k then (rOut q m A B i j + A i * B (j - i) % q) % q else rOut q m A B i j
theorem rIn_0 (q m : Nat) (A B : Nat → Nat) (i : Nat) : rIn q m A B i 0 = rOut q m A B i := funext fun j => if_neg (by omega)
theorem rOut_lt {q : Nat} (h : 0 < q) (m : Nat) (A B : Nat → Nat) : ∀ i j, rOut q m A B i j < q
 | 0, _ => h
 | i + 1, j => by
  show (if _ then _ else _) < q
  split
  ·exact Nat.mod_lt _ h
  ·exact rOut_lt h m A B i j
theorem rOut_fi {q : Nat} [NeZero q] (m : Nat) (A B : Nat → Nat) (j : Nat) : ∀ i, (fi (rOut q m A B i j) : Fin q) = psm (fun i' => if i' ≤ j then fi (A i') * pco (fl m B) (j - i') else 0) i
 | 0 => rfl
 | i + 1 => by
  have ih := rOut_fi (q := q) m A B j i
  show fi (if i ≤ j ∧ j < i + m then _ else _) = psm _ i + if i ≤ j then _ else _
  rw [← ih]
  by_cases h1 : i ≤ j
  ·by_cases h2 : j < i + m
   ·rw [if_pos ⟨h1, h2⟩, if_pos h1, fl_co _ _ _ (by omega), fi_mod, fi_add, fi_mod, fi_mul]
   ·rw [if_neg (by omega), if_pos h1, fl_out _ _ _ (by omega)]
    grind
  ·rw [if_neg (by omega), if_neg h1]
   grind
theorem rmul12_a (ab ae : Option Addr) (n c m ce q : Nat) (w : World) (hn : n = 0) :
  Calls Tryz.prog 99 #[.slice ab n c, .slice ae m ce, .int .i64 (q : Nat)] w fun e w' => e = .returned (.slice none 0 0) ∧ Below w.heap.size w w' := by
 go_enter Tryz.func99, Tryz.ntmps99
 have sb := sbmk w
 iterate 2 go_step
 refine rp ?_;refine p_v (.slice none 0 0) ((fun _ => rfl)) (pw_nil ?_);simp only [pv]
 iterate 4 go_step
 refine rp ?_;refine p_m ?_;simp only [pv];refine p_v (.int .i64 n) (n_l ab n c sl_intsX) ?_;simp only [pv];refine p_v (.bool true) (exec_eql_k .i64 _ _ _ _ rfl n 0 rfl rfl true (decide_eq_true (by omega))) ?_;refine p_m ?_;refine p_s ?_;refine p_s ?_;refine p_s ?_;simp only [pv];refine p_k true (.bool true) (pw_nil ?_);simp only [pv]
 iterate 4 go_step
 refine rp ?_;refine p_v (.slice none 0 0) ((fun _ => rfl)) (pw_nil ?_);simp only [pv]
 go_wp2
 go_ret
 exact ⟨rfl, sb⟩
theorem rmul12_b (ab ae : Option Addr) (n c m ce q : Nat) (w : World) (hn : n ≠ 0) (hm : m = 0) :
  Calls Tryz.prog 99 #[.slice ab n c, .slice ae m ce, .int .i64 (q : Nat)] w fun e w' => e = .returned (.slice none 0 0) ∧ Below w.heap.size w w' := by
 go_enter Tryz.func99, Tryz.ntmps99
 have sb := sbmk w
 iterate 2 go_step
 refine rp ?_;refine p_v (.slice none 0 0) ((fun _ => rfl)) (pw_nil ?_);simp only [pv]
 iterate 4 go_step
 refine rp ?_;refine p_m ?_;simp only [pv];refine p_v (.int .i64 n) (n_l ab n c sl_intsX) ?_;simp only [pv];refine p_v (.bool false) (exec_eql_k .i64 _ _ _ _ rfl n 0 rfl rfl false (decide_eq_false (by omega))) ?_;refine p_m ?_;refine p_m ?_;simp only [pv];refine p_v (.int .i64 m) (n_l ae m ce sl_intsX) ?_;simp only [pv];refine p_v (.bool true) (exec_eql_k .i64 _ _ _ _ rfl m 0 rfl rfl true (decide_eq_true (by omega))) ?_;refine p_k false (.bool true) (pw_nil ?_);simp only [pv]
 iterate 4 go_step
 refine rp ?_;refine p_v (.slice none 0 0) ((fun _ => rfl)) (pw_nil ?_);simp only [pv]
 go_wp2
 go_ret
 exact ⟨rfl, sb⟩
theorem rmul12_any (ab ae : Option Addr) (n c m ce q X : Nat) (u v2 : Nat → Nat) (gb ob ge oe : Nat) (bcs ecs : Array Value) (tb te : TypeId) (w : World) (hX : n + m - 1 = X) (hn0 : n ≠ 0) (hm0 : m ≠ 0) (hn : n ≤ 1000) (hm : m ≤ 1000) (h0 : 0 < q) (hq : q < 4611686018427387904) (hna : NumsAt w ab n u gb ob bcs tb) (hnb : NumsAt w ae m v2 ge oe ecs te) :
  Calls Tryz.prog 99 #[.slice ab n c, .slice ae m ce, .int .i64 (q : Nat)] w fun e w' => ∃ g, e = .returned (.slice (some ⟨g, 0, none⟩) (yTn (rOut q m u v2 n) X) X) ∧ Row w' g (isC X (rOut q m u v2 n)) 3 ∧ Below w.heap.size w w' := by
 obtain ⟨ie, hie, hze, hsz, hby⟩ := info_int'
 have HB : Hid (NumsAt w ab n u gb ob bcs tb) := hna
 have HE : Hid (NumsAt w ae m v2 ge oe ecs te) := hnb
 have HL : Hid (∀ i j, rOut q m u v2 i j < q) := rOut_lt h0 m u v2
 have hmu := fun (X Y : Nat) w' => rmul8_any X Y q w' h0 hq
 have had := fun (X Y : Nat) w' (hX : X < q) (hY : Y < q) => radd8_any X Y q w' h0 (by omega) (by omega)
 have hgb : n ≠ 0 → gb < w.heap.size := fun h => by
  rcases hna.at' with h1 | ⟨_, r, _⟩
  ·exact absurd h1 h
  ·exact r.lt
 have hge : m ≠ 0 → ge < w.heap.size := fun h => by
  rcases hnb.at' with h1 | ⟨_, r, _⟩
  ·exact absurd h1 h
  ·exact r.lt
 replace hgb := hgb hn0;replace hge := hge hm0;clear hna hnb
 go_enter Tryz.func99, Tryz.ntmps99
 have sb := sbmk w
 iterate 2 go_step
 refine rp ?_;refine p_v (.slice none 0 0) ((fun _ => rfl)) (pw_nil ?_);simp only [pv]
 iterate 4 go_step
 refine rp ?_;refine p_m ?_;simp only [pv];refine p_v (.int .i64 n) (n_l ab n c sl_intsX) ?_;simp only [pv];refine p_v (.bool false) (exec_eql_k .i64 _ _ _ _ rfl n 0 rfl rfl false (decide_eq_false (by omega))) ?_;refine p_m ?_;refine p_m ?_;simp only [pv];refine p_v (.int .i64 m) (n_l ae m ce sl_intsX) ?_;simp only [pv];refine p_v (.bool false) (exec_eql_k .i64 _ _ _ _ rfl m 0 rfl rfl false (decide_eq_false (by omega))) ?_;refine p_k false (.bool false) (pw_nil ?_);simp only [pv]
 iterate 7 go_step
 refine rp ?_;refine p_m ?_;simp only [pv];refine p_v (.int .i64 n) (n_l ab n c sl_intsX) ?_;refine p_m ?_;simp only [pv];refine p_v (.int .i64 m) (n_l ae m ce sl_intsX) ?_;simp only [pv];refine p_v (.int .i64 ((n + m : Nat) : Int)) (x_a n m) ?_;simp only [pv];refine p_v (.int .i64 ((X : Nat) : Int)) (fun w' => (exec_sub_in _ _ _ _ rfl (n + m) 1 rfl rfl (by omega) (by omega) w').trans (by rw [hX])) ?_;simp only [pv];refine pw_make (by rfl) 30 3 _ _ rfl ie _ Tryz.underlying30 hie hze X rfl rfl (by rw [hsz]; omega) (by rw [hby]; omega) (by omega) ?_;intro gM z3006 n0 rM k;simp only [pv]
 have bM := Nat.le_trans sb.size n0
 clear n0;replace sb := kk sb k;clear k;refine p_a (pw_nil ?_);simp only [pv]
 rw [hsz, made_ints] at rM
 clear hie hze hsz hby
 iterate 4 go_step
 refine rp ?_;refine p_v (.int .i64 0) (fun _ => rfl) (pw_nil ?_);simp only [pv]
 go_wp2_with fail
 go_loopg [8, 9] n (fun g s8 s9 wr => ∃ i : Nat, i + g = n ∧ s8 = .int .i64 i ∧ Row wr gM (isC X (rOut q m u v2 i)) 3 ∧ Below w.heap.size w wr)
 case atStart => exact ⟨0, by omega, rfl, rM, sb⟩
 case round =>
  clear rM sb
  obtain ⟨i, hi, rfl, rM, sb⟩ := hrel
  cases gk with
  | zero =>
   obtain rfl : i = n := by omega
   clear hi hmu had
   have htr := fun w' (r : Row w' gM (isC X (rOut q m u v2 i)) 3) => rtrim_any (some ⟨gM, 0, none⟩) X X (rOut q m u v2 i) gM 0 _ _ w' (by omega) (Nat.le_refl X) (nums_row r)
   iterate 2 go_step
   refine rp ?_;refine p_m ?_;refine p_m ?_;simp only [pv];refine p_v (.int .i64 i) (n_l ab i c sl_intsX) ?_;refine p_v (.bool false) (lt_f i i) (pw_nil ?_);simp only [pv]
   iterate 7 go_step
   refine rp ?_;refine p_m ?_;simp only [pv];refine p_c 11 Tryz.func11 #[.slice (some ⟨gM, 0, none⟩) X X] (htr _ rM) ?_;intro z11001 k;simp only [pv];replace rM := k.ro rM;replace sb := kk sb k;clear k;refine p_a (pw_nil ?_);simp only [pv]
   go_wp2
   go_ret
   exact ⟨gM, rfl, rM, sb⟩
  | succ g =>
   have hlt : i < n := by omega
   obtain h1 | ⟨rfl, rB, hbt⟩ := HB.out.at'
   ·exact absurd h1 hn0
   have hbt' := hbt i hlt
   clear rB hbt
   iterate 2 go_step
   refine rp ?_;refine p_m ?_;refine p_m ?_;simp only [pv];refine p_v (.int .i64 n) (n_l (some ⟨gb, ob, none⟩) n c sl_intsX) ?_;refine p_v (.bool true) (lt_t i n) (pw_nil ?_);simp only [pv]
   iterate 9 go_step
   refine rp ?_;refine p_v (.int .i64 0) (fun _ => rfl) (pw_nil ?_);simp only [pv]
   go_wp2_with fail
   go_loopg [9] m (fun y s9 wr => ∃ k : Nat, k + y = m ∧ s9 = .int .i64 k ∧ Row wr gM (isC X (rIn q m u v2 i k)) 3 ∧ Below w.heap.size w wr)
   case atStart => exact ⟨0, by omega, rfl, by rw [rIn_0]; exact rM, sb⟩
   case round =>
    clear rM sb
    obtain ⟨k, hk, rfl, rM, sb⟩ := hrel
    cases gk with
    | zero =>
     obtain rfl : k = m := by omega
     clear hk
     iterate 2 go_step
     refine rp ?_;refine p_m ?_;refine p_m ?_;simp only [pv];refine p_v (.int .i64 k) (n_l ae k ce sl_intsX) ?_;refine p_v (.bool false) (lt_f k k) (pw_nil ?_);simp only [pv]
     iterate 6 go_step
     refine rp ?_;refine p_m ?_;simp only [pv];refine p_v (.int .i64 ((i + 1 : Nat) : Int)) (x_a i 1) ?_;refine p_a (pw_nil ?_);simp only [pv]
     go_wp2
     go_roundg g
     case measure => omega
     case rel => exact ⟨i + 1, by omega, rfl, rM, sb⟩
    | succ y =>
     have hltk : k < m := by omega
     have hik : i + k < X := by omega
     obtain h1 | ⟨rfl, rE, het⟩ := HE.out.at'
     ·exact absurd h1 hm0
     have het' := het k hltk
     clear rE het
     have hold : rIn q m u v2 i k (i + k) = rOut q m u v2 i (i + k) := if_neg (by omega)
     have hcell : (isC X (rIn q m u v2 i k))[0 + (i + k) * 1]? = some (.int .i64 (rOut q m u v2 i (i + k) : Nat)) := by
      rw [Nat.zero_add, Nat.mul_one, isC_get X _ _ hik, hold]
     have hput : (isC X (rIn q m u v2 i k)).setIfInBounds (0 + (i + k) * 1) (.int .i64 (rIn q m u v2 i (k + 1) (i + k) : Nat)) = isC X (rIn q m u v2 i (k + 1)) := by
      rw [Nat.zero_add, Nat.mul_one]
      refine isC_put X _ _ (i + k) _ fun j hj => ?_
      by_cases hjk : j = i + k
      ·rw [if_pos hjk, hjk]
      ·rw [if_neg hjk]
       unfold rIn
       by_cases h2 : i ≤ j ∧ j < i + k
       ·rw [if_pos h2, if_pos (by omega)]
       ·rw [if_neg h2, if_neg (by omega)]
     have hval : rIn q m u v2 i (k + 1) (i + k) = (rOut q m u v2 i (i + k) + u i * v2 k % q) % q := by
      unfold rIn
      rw [if_pos (by omega), show i + k - i = k by omega]
     have hm1 := fun w' => hmu (u i) (v2 k) w'
     have ha1 := fun w' => had (rOut q m u v2 i (i + k)) (u i * v2 k % q) w' (HL.out _ _) (Nat.mod_lt _ h0)
     rw [← hval] at ha1
     have hsz' : 0 + (i + k) * 1 < (isC X (rIn q m u v2 i k)).size := by rw [isC_size]; omega
     clear hval hold
     generalize u i * v2 k % q = MM at *
     generalize rIn q m u v2 i (k + 1) (i + k) = NN at *
     generalize rOut q m u v2 i (i + k) = OO at *
     iterate 2 go_step
     refine rp ?_;refine p_m ?_;refine p_m ?_;simp only [pv];refine p_v (.int .i64 m) (n_l (some ⟨ge, oe, none⟩) m ce sl_intsX) ?_;refine p_v (.bool true) (lt_t k m) (pw_nil ?_);simp only [pv]
     obtain h1 | ⟨_, rB, _⟩ := (HB.out.below sb).at'
     ·exact absurd h1 hn0
     obtain h1 | ⟨_, rE, _⟩ := (HE.out.below sb).at'
     ·exact absurd h1 hm0
     have orB := rB
     have orE := rE
     iterate 8 go_step
     refine wp_region_ewb (by kernel_rfl) [23] [(0, false), (1, false), (2, false), (3, false), (4, false), (5, false), (6, false), (7, false), (8, false), (9, false), (10, false), (11, false), (12, false), (13, false), (14, false), (15, false), (16, false), (17, false), (18, false), (19, false), (20, false), (21, false), (22, false), (23, true)] ?_ (by kernel_rfl)
     have orM := rM
     have cb := below_self sb
     have osb := sb
     refine e_m ?_;refine e_m ?_;refine e_m ?_;simp only [pv];refine e_v (.int .i64 ((i + k : Nat) : Int)) (x_a i k) ?_;refine e_m ?_;refine e_m ?_;refine e_m ?_;simp only [pv];refine e_v (.int .i64 ((i + k : Nat) : Int)) (x_a i k) ?_;simp only [pv];refine e_v (.pointer (some ⟨gM, 0 + (i + k) * 1, none⟩)) ((exec_index_s 30 _ _ rfl gM 0 (X) (X) rfl ((i + k)) rfl (hik) _ Tryz.underlying30 1 Tryz.sizeOf3)) ?_;simp only [pv];refine ew_loadk (by rfl) 3 _ rfl _ (0 + (i + k) * 1) rfl (fun _ hb => (orM.belowAll hb).r) (.int .i64 (OO : Nat)) hcell Tryz.isAgg3 ?_;refine e_m ?_;refine e_m ?_;simp only [pv];refine e_v (.pointer (some ⟨gb, ob + i * 1, none⟩)) ((exec_index_s 30 _ _ rfl gb ob (n) (c) rfl (i) rfl (hlt) _ Tryz.underlying30 1 Tryz.sizeOf3)) ?_;simp only [pv];refine ew_loadk (by rfl) 3 _ rfl _ (ob + i * 1) rfl (fun _ hb => (orB.belowAll hb)) (.int .i64 (u i : Nat)) hbt' Tryz.isAgg3 ?_;refine e_m ?_;refine e_m ?_;simp only [pv];refine e_v (.pointer (some ⟨ge, oe + k * 1, none⟩)) ((exec_index_s 30 _ _ rfl ge oe (m) (ce) rfl (k) rfl (hltk) _ Tryz.underlying30 1 Tryz.sizeOf3)) ?_;simp only [pv];refine ew_loadk (by rfl) 3 _ rfl _ (oe + k * 1) rfl (fun _ hb => (orE.belowAll hb)) (.int .i64 (v2 k : Nat)) het' Tryz.isAgg3 ?_;refine e_m ?_;simp only [pv];refine ew_call (by rfl) 64 _ _ rfl Tryz.func64 (by kernel_rfl) #[.int .i64 (u i : Nat), .int .i64 (v2 k : Nat), .int .i64 (q : Nat)] rfl _ (fun w _ => hm1 w) ?_;refine e_m ?_;simp only [pv];refine ew_call (by rfl) 130 _ _ rfl Tryz.func130 (by kernel_rfl) #[.int .i64 (OO : Nat), .int .i64 (MM : Nat), .int .i64 (q : Nat)] rfl _ (fun w _ => ha1 w) ?_;simp only [pv];refine e_v (.pointer (some ⟨gM, 0 + (i + k) * 1, none⟩)) ((exec_index_s 30 _ _ rfl gM 0 (X) (X) rfl ((i + k)) rfl (hik) _ Tryz.underlying30 1 Tryz.sizeOf3)) ?_;simp only [pv];refine ew_putv (by rfl) 3 _ _ rfl _ (0 + (i + k) * 1) rfl rM (.int .i64 (NN : Nat)) rfl rfl rfl size1tint (by exact hsz') (isC X (rIn q m u v2 i (k + 1))) hput ?_;intro wa23 hqb;replace rM := rM.belowAll hqb;replace sb := b_o sb hqb;clear hqb rM;intro wb23 rM k
     refine ⟨fun h => (by cases h), ?_⟩
     simp only [Act.put]
     replace sb := sb.trans (k.below _ sb.size (by simp <;> omega))
     clear k;refine ew_nil ?_;intro wz hqb;replace rM := rM.belowAll hqb;replace sb := b_o sb hqb;clear hqb cb osb orM;clear hput hcell hsz' rB rE orB orE
     iterate 2 go_step
     refine rp ?_;refine p_m ?_;simp only [pv];refine p_v (.int .i64 ((k + 1 : Nat) : Int)) (x_a k 1) ?_;refine p_a (pw_nil ?_);simp only [pv]
     go_wp2
     go_roundg y
     case measure => omega
     case rel => exact ⟨k + 1, by omega, rfl, rM, sb⟩
theorem rmulL {Q : Nat} [NeZero Q] (va vb : Value) (La Lb : List (Fin Q)) (w : World) (ha : La.length ≤ 1000) (hb : Lb.length ≤ 1000) (q : FdQ Q) (hq : Q < 4611686018427387904) (h1 : IlAt w va La) (h2 : IlAt w vb Lb) :
  Calls Tryz.prog 99 #[va, vb, .int .i64 (Q : Nat)] w fun e w' => ∃ v', e = .returned v' ∧ IlAt w' v' (pmul La Lb) ∧ Below w.heap.size w w' := by
 obtain ⟨ab, c, gb, ob, bcs, tb, rfl, hc, hna⟩ := h1
 obtain ⟨ae, ce, ge, oe, ecs, te, rfl, hce, hnb⟩ := h2
 by_cases hn0 : La.length = 0
 ·refine (rmul12_a ab ae La.length c Lb.length ce Q w hn0).mono ?_
  rintro e w' ⟨rfl, hb'⟩
  have e1 : pmul La Lb = [] := if_pos (.inl (List.eq_nil_of_length_eq_zero hn0))
  rw [e1]
  exact ⟨_, rfl, ilAt_nil _, hb'⟩
 by_cases hm0 : Lb.length = 0
 ·refine (rmul12_b ab ae La.length c Lb.length ce Q w hn0 hm0).mono ?_
  rintro e w' ⟨rfl, hb'⟩
  have e1 : pmul La Lb = [] := if_pos (.inr (List.eq_nil_of_length_eq_zero hm0))
  rw [e1]
  exact ⟨_, rfl, ilAt_nil _, hb'⟩
 refine (rmul12_any ab ae La.length c Lb.length ce Q _ _ _ gb ob ge oe bcs ecs tb te w rfl hn0 hm0 ha hb q.pos hq hna hnb).mono ?_
 rintro e w' ⟨g, rfl, r, hb'⟩
 have hlt := fun j => rOut_lt q.pos Lb.length (fun i => (pco La i).val) (fun i => (pco Lb i).val) La.length j
 have hL : ∀ i, pco (fl (La.length + Lb.length - 1) (rOut Q Lb.length (fun i => (pco La i).val) (fun i => (pco Lb i).val) La.length) : List (Fin Q)) i = pco (pmul La Lb) i := fun i => by
  rw [pco_pmul, pco_pcv]
  by_cases hi : i < La.length + Lb.length - 1
  ·rw [fl_co _ _ _ hi, rOut_fi, fl_of]
   exact psm_congr _ _ _ fun j _ => by
    show (if j ≤ i then fi (pco La j).val * _ else _) = (if j ≤ i then _ else _)
    rw [fi_of]
  ·rw [fl_out _ _ _ (by omega)]
   refine (psm_zero _ _ fun j hj => ?_).symm
   show (if j ≤ i then _ else _) = (0 : Fin Q)
   split
   ·rw [pco_out Lb _ (by omega)]; grind
   ·rfl
 obtain ⟨e1, e2⟩ := tn_of _ _ (pmul La Lb) (fun i _ => hlt i) hL
 rw [pmul_trim] at e1 e2
 have h4 := yTn_le (rOut Q Lb.length (fun i => (pco La i).val) (fun i => (pco Lb i).val) La.length) (La.length + Lb.length - 1)
 have h3 := (nums_row r).take h4
 rw [e1] at e2 h3 h4
 rw [e1]
 exact ⟨_, rfl, ⟨_, _, _, _, _, _, rfl, h4, h3.congr e2⟩, hb'⟩
section
variable {Q : Nat} [NeZero Q]
theorem plg_congr (iv : Fin Q → Fin Q) (xs xs' : Nat → Fin Q) (y : Fin Q) (i n : Nat) (hi : i < n) (h : ∀ j, j < n → xs j = xs' j) : ∀ k, k ≤ n → plg iv xs y i k = plg iv xs' y i k
 | 0, _ => rfl
 | k + 1, hk => by
  show (if k = i then _ else _) = (if k = i then _ else _)
  rw [plg_congr iv xs xs' y i n hi h k (by omega), h k (by omega), h i hi]
theorem pthr_congr (iv : Fin Q → Fin Q) (xs xs' ys ys' : Nat → Fin Q) (n : Nat) (h : ∀ j, j < n → xs j = xs' j) (h2 : ∀ j, j < n → ys j = ys' j) : ∀ m, m ≤ n → pthr iv xs ys n m = pthr iv xs' ys' n m
 | 0, _ => rfl
 | m + 1, hm => by
  show psum _ (plg _ _ _ _ _) = psum _ (plg _ _ _ _ _)
  rw [pthr_congr iv xs xs' ys ys' n h h2 m (by omega), h2 m (by omega), plg_congr iv xs xs' (ys' m) m n (by omega) h n (Nat.le_refl n)]
theorem IlAt.nums {w : World} {v : Value} {L : List (Fin Q)} {n : Nat} (h : IlAt w v L) (hn : L.length = n) : ∃ ab c gb ob bcs tb, v = .slice ab n c ∧ n ≤ c ∧ NumsAt w ab n (fun i => (pco L i).val) gb ob bcs tb := by
 subst hn
 exact h
theorem ilAt_1 {w : World} {g A : Nat} (r : Row w g #[.int .i64 (A : Nat)] 3) (hA : A < Q) : IlAt w (.slice (some ⟨g, 0, none⟩) 1 1) [(fi A : Fin Q)] :=
 ⟨_, 1, g, 0, _, _, rfl, Nat.le_refl 1, ⟨.inr ⟨rfl, r.r, fun i hi => by
  have hi' : i < 1 := hi
  obtain rfl : i = 0 := by omega
  show some _ = some (Value.int .i64 (((fi A : Fin Q)).val : Nat))
  rw [val_fi hA]
  rfl⟩⟩⟩
theorem ilAt_2 {w : World} {g A B : Nat} (r : Row w g #[.int .i64 (A : Nat), .int .i64 (B : Nat)] 3) (hA : A < Q) (hB : B < Q) : IlAt w (.slice (some ⟨g, 0, none⟩) 2 2) [(fi A : Fin Q), fi B] :=
 ⟨_, 2, g, 0, _, _, rfl, Nat.le_refl 2, ⟨.inr ⟨rfl, r.r, fun i hi => by
  have hi' : i < 2 := hi
  have h : i = 0 ∨ i = 1 := by omega
  rcases h with rfl | rfl
  ·show some _ = some (Value.int .i64 (((fi A : Fin Q)).val : Nat))
   rw [val_fi hA]
   rfl
  ·show some _ = some (Value.int .i64 (((fi B : Fin Q)).val : Nat))
   rw [val_fi hB]
   rfl⟩⟩⟩
theorem ivF_nat (pr : IsP Q) (A : Nat) (hA : A < Q) : (fi (ivN A Q) : Fin Q) = ivF (fi A) := by
 unfold ivF
 rw [val_fi hA, iv_is pr, Nat.mod_eq_of_lt hA]
end
theorem rthr_any {Q : Nat} [NeZero Q] (ab ae : Option Addr) (n c ce : Nat) (Xs Ys : List (Fin Q)) (gb ob ge oe : Nat) (bcs ecs : Array Value) (tb te : TypeId) (w : World) (hn : n ≤ 100) (q : FdQ Q) (hq : Q < 4611686018427387904) (hna : NumsAt w ab n (fun i => (pco Xs i).val) gb ob bcs tb) (hnb : NumsAt w ae n (fun i => (pco Ys i).val) ge oe ecs te) :
  Calls Tryz.prog 63 #[.slice ab n c, .slice ae n ce, .int .i64 (Q : Nat)] w fun e w' => ∃ v', e = .returned v' ∧ IlAt w' v' (pthr ivF (pco Xs) (pco Ys) n n) ∧ Below w.heap.size w w' := by
 obtain ⟨ie, hie, hz, hsz, _⟩ := info_int'
 have hs1 : ¬ 1 * ie.size > 2 ^ 24 := by rw [hsz]; decide
 have hs2 : ¬ 1 * ie.size = 0 := by rw [hsz]; decide
 have hl1 := fun a => lit_i1 a ie.size hsz
 have hs3 : ¬ 2 * ie.size > 2 ^ 24 := by rw [hsz]; decide
 have hs4 : ¬ 2 * ie.size = 0 := by rw [hsz]; decide
 have hl2 := fun a b => lit_i2 a b ie.size hsz
 have HB : Hid (NumsAt w ab n (fun i => (pco Xs i).val) gb ob bcs tb) := hna
 have HE : Hid (NumsAt w ae n (fun i => (pco Ys i).val) ge oe ecs te) := hnb
 have HV : Hid (∀ x : Fin Q, x.val < Q) := fun x => x.isLt
 have h2Q := q.pr.1
 have hqp := q.pos
 clear hna hnb hsz
 go_enter Tryz.func63, Tryz.ntmps63
 have sb := sbmk w
 iterate 2 go_step
 refine rp ?_;refine p_v (.slice none 0 0) ((fun _ => rfl)) (pw_nil ?_);simp only [pv]
 iterate 3 go_step
 refine rp ?_;refine p_v (.slice none 0 0) ((fun _ => rfl)) (pw_nil ?_);simp only [pv]
 iterate 4 go_step
 refine rp ?_;refine p_v (.int .i64 0) (fun _ => rfl) (pw_nil ?_);simp only [pv]
 go_wp2_with fail
 go_loopg [7, 8, 9, 10, 11] n (fun x s7 s8 s9 s10 s11 wr => ∃ i : Nat, ∃ vo : Value, i + x = n ∧ vo = s7 ∧ s8 = .int .i64 i ∧ IlAt wr vo (pthr ivF (pco Xs) (pco Ys) n i) ∧ Below w.heap.size w wr)
 case atStart => exact ⟨0, _, by omega, rfl, rfl, ilAt_nil _, sb⟩
 case round =>
  clear sb
  obtain ⟨i, vo, hi, rfl, rfl, ho, sb⟩ := hrel
  cases gk with
  | zero =>
   obtain rfl : i = n := by omega
   clear hi
   iterate 2 go_step
   refine rp ?_;refine p_m ?_;refine p_m ?_;simp only [pv];refine p_v (.int .i64 i) (n_l ab i c sl_intsX) ?_;refine p_v (.bool false) (lt_f i i) ?_;refine p_m ?_;refine p_s ?_;refine p_s ?_;simp only [pv];refine p_s ?_;refine p_s ?_;refine p_k false (.bool false) (pw_nil ?_);simp only [pv]
   iterate 7 go_step
   refine rp ?_;refine p_m ?_;refine p_a (pw_nil ?_);simp only [pv]
   go_wp2
   go_ret
   exact ⟨_, rfl, ho, sb⟩
  | succ x =>
   have hlt : i < n := by omega
   obtain h1 | ⟨rfl, rB, hbt⟩ := HB.out.at'
   ·exact absurd h1 (by omega)
   obtain h1 | ⟨rfl, rE, het⟩ := HE.out.at'
   ·exact absurd h1 (by omega)
   have het' := het i hlt
   have HBT : Hid (∀ k, k < n → bcs[ob + k * 1]? = some (.int .i64 ((pco Xs k).val : Nat))) := hbt
   clear rB rE het hbt
   iterate 2 go_step
   refine rp ?_;refine p_m ?_;refine p_m ?_;simp only [pv];refine p_v (.int .i64 n) (n_l (some ⟨gb, ob, none⟩) n c sl_intsX) ?_;refine p_v (.bool true) (lt_t i n) ?_;refine p_m ?_;refine p_m ?_;refine p_m ?_;simp only [pv];refine p_v (.int .i64 n) (n_l (some ⟨ge, oe, none⟩) n ce sl_intsX) ?_;refine p_v (.bool true) (lt_t i n) ?_;refine p_k true (.bool true) (pw_nil ?_);simp only [pv]
   obtain h1 | ⟨_, rE, _⟩ := (HE.out.below sb).at'
   ·exact absurd h1 (by omega)
   iterate 9 go_step
   refine rp ?_;refine p_m ?_;refine p_m ?_;simp only [pv];refine p_x i hlt Tryz.underlying30 Tryz.sizeOf3 ?_;simp only [pv];refine p_d (oe + i * 1) rE (.int .i64 ((pco Ys i).val : Nat)) het' Tryz.isAgg3 ?_;simp only [pv];refine pw_litr (by rfl) 30 3 1 _ rfl #[.int .i64 ((pco Ys i).val : Nat)] ie _ Tryz.underlying30 hie hz hs1 hs2 [(0, .int .i64 ((pco Ys i).val : Nat))] rfl (hl1 _) ?_;intro gX z5004 n0 rX k;simp only [pv]
   have bX := Nat.le_trans sb.size n0
   clear n0;replace ho := ho.below k.nil;replace sb := kk sb k;clear k;refine p_a (pw_nil ?_);simp only [pv]
   have hone : IlAt z5004 (.slice (some ⟨gX, 0, none⟩) 1 1) (plg ivF (pco Xs) (pco Ys i) i 0) := by
    have := ilAt_1 (Q := Q) rX (HV.out _)
    rw [fi_of] at this
    exact this
   clear rX bX rE
   iterate 4 go_step
   refine rp ?_;refine p_v (.int .i64 0) (fun _ => rfl) (pw_nil ?_);simp only [pv]
   go_wp2_with fail
   go_loopg [9, 10, 11] n (fun y s9 s10 s11 wr => ∃ k : Nat, ∃ v1 : Value, k + y = n ∧ v1 = s9 ∧ s10 = .int .i64 k ∧ IlAt wr v1 (plg ivF (pco Xs) (pco Ys i) i k) ∧ IlAt wr vo (pthr ivF (pco Xs) (pco Ys) n i) ∧ Below w.heap.size w wr)
   case atStart => exact ⟨0, _, by omega, rfl, rfl, hone, ho, sb⟩
   case round =>
    clear hone ho sb
    obtain ⟨k, v1, hk, rfl, rfl, hone, ho, sb⟩ := hrel
    cases gk with
    | zero =>
     obtain rfl : k = n := by omega
     clear hk
     have hl1' := plg_length ivF (pco Xs) (pco Ys i) i k
     rw [if_pos hlt] at hl1'
     have hl2' := pthr_length ivF (pco Xs) (pco Ys) k i (by omega)
     have had := fun w' (h1 : IlAt w' vo (pthr ivF (pco Xs) (pco Ys) k i)) (h2 : IlAt w' v1 (plg ivF (pco Xs) (pco Ys i) i k)) => raddL vo v1 _ _ w' (by omega) (by omega) q hq h1 h2
     iterate 2 go_step
     refine rp ?_;refine p_m ?_;refine p_m ?_;simp only [pv];refine p_v (.int .i64 k) (n_l (some ⟨gb, ob, none⟩) k c sl_intsX) ?_;refine p_v (.bool false) (lt_f k k) (pw_nil ?_);simp only [pv]
     iterate 6 go_step
     refine rp ?_;refine p_m ?_;refine p_m ?_;refine p_m ?_;simp only [pv];refine p_f 100 Tryz.func100 #[vo, v1, .int .i64 (Q : Nat)] (had _ ho hone) ?_
     rintro _ z12003 ⟨v2, rfl, h2, hb⟩
     refine ⟨_, rfl, ?_⟩
     simp only [pv]
     have k := Kept.ofBelow hb
     clear hb;replace ho := ho.below k.nil;replace hone := hone.below k.nil;replace sb := kk sb k;clear k;refine p_a (pw_nil ?_);simp only [pv]
     iterate 2 go_step
     refine rp ?_;refine p_m ?_;simp only [pv];refine p_v (.int .i64 ((i + 1 : Nat) : Int)) (x_a i 1) ?_;refine p_a (pw_nil ?_);simp only [pv]
     go_wp2
     go_roundg x
     case measure => omega
     case rel => exact ⟨i + 1, _, by omega, rfl, rfl, h2, sb⟩
    | succ y =>
     have hltk : k < n := by omega
     have hbk := HBT.out k hltk
     have hbi := HBT.out i hlt
     by_cases hki : k = i
     ·have hst : plg ivF (pco Xs) (pco Ys i) i (k + 1) = plg ivF (pco Xs) (pco Ys i) i k := if_pos hki
      iterate 2 go_step
      refine rp ?_;refine p_m ?_;refine p_m ?_;simp only [pv];refine p_v (.int .i64 n) (n_l (some ⟨gb, ob, none⟩) n c sl_intsX) ?_;refine p_v (.bool true) (lt_t k n) (pw_nil ?_);simp only [pv]
      iterate 9 go_step
      refine rp ?_;refine p_m ?_;refine p_m ?_;simp only [pv];refine p_v (.bool false) (exec_neq_k .i64 _ _ _ _ rfl k i rfl rfl false (by rw [decide_eq_true (by omega)]; rfl)) (pw_nil ?_);simp only [pv]
      iterate 6 go_step
      refine rp ?_;refine p_m ?_;simp only [pv];refine p_v (.int .i64 ((k + 1 : Nat) : Int)) (x_a k 1) ?_;refine p_a (pw_nil ?_);simp only [pv]
      go_wp2
      go_roundg y
      case measure => omega
      case rel => exact ⟨k + 1, _, by omega, rfl, rfl, hst ▸ hone, ho, sb⟩
     ·obtain ⟨D, hD⟩ : ∃ D, sbN (pco Xs i).val (pco Xs k).val Q = D := ⟨_, rfl⟩
      have hDl : D < Q := by rw [← hD]; exact Nat.mod_lt _ hqp
      have hsu := fun w' => rsub8_any (pco Xs i).val (pco Xs k).val Q w' hqp (HV.out _) (HV.out _) hq
      rw [hD] at hsu
      obtain ⟨BY, hBY⟩ : ∃ BY, ivN D Q = BY := ⟨_, rfl⟩
      have hBl : BY < Q := by
       rw [← hBY, ← Nat.mod_eq_of_lt hDl, ← iv_is q.pr]
       exact inv_lt _ _ q.pr
      have hiv := fun w' => rinv8_any D Q w' h2Q hq
      rw [hBY] at hiv
      obtain ⟨S0, hS0⟩ : ∃ S0, sbN 0 (pco Xs k).val Q = S0 := ⟨_, rfl⟩
      have hs0 := fun w' => rsub8_any 0 (pco Xs k).val Q w' hqp hqp (HV.out _) hq
      rw [hS0] at hs0
      obtain ⟨PR, hPR⟩ : ∃ PR, S0 * BY % Q = PR := ⟨_, rfl⟩
      have hPl : PR < Q := by rw [← hPR]; exact Nat.mod_lt _ hqp
      have hmu := fun w' => rmul8_any S0 BY Q w' hqp hq
      rw [hPR] at hmu
      have hst : pmul (plg ivF (pco Xs) (pco Ys i) i k) [fi PR, fi BY] = plg ivF (pco Xs) (pco Ys i) i (k + 1) := by
       have e1 : (fi BY : Fin Q) = ivF (pco Xs i - pco Xs k) := by
        rw [← hBY, ivF_nat q.pr D hDl, ← hD]
        unfold sbN
        rw [fi_sub, fi_of, fi_of]
       have e2 : (fi PR : Fin Q) = (0 - pco Xs k) * ivF (pco Xs i - pco Xs k) := by
        rw [← hPR, fi_mod, fi_mul, e1, ← hS0]
        unfold sbN
        rw [fi_sub, fi_of]
        rfl
       rw [e1, e2]
       exact (if_neg hki).symm
      have hl1' := plg_length ivF (pco Xs) (pco Ys i) i k
      have hl3 : (if i < k then k else k + 1) ≤ 102 := by split <;> omega
      have hml := fun w' (h1 : IlAt w' v1 (plg ivF (pco Xs) (pco Ys i) i k)) g2 (r : Row w' g2 #[.int .i64 (PR : Nat), .int .i64 (BY : Nat)] 3) => rmulL v1 (.slice (some ⟨g2, 0, none⟩) 2 2) _ [fi PR, fi BY] w' (by omega) (show 2 ≤ 1000 by decide) q hq h1 (ilAt_2 r hPl hBl)
      rw [hst] at hml
      clear hst hl1' hl3 hPR hS0 hBY hD
      iterate 2 go_step
      refine rp ?_;refine p_m ?_;refine p_m ?_;simp only [pv];refine p_v (.int .i64 n) (n_l (some ⟨gb, ob, none⟩) n c sl_intsX) ?_;refine p_v (.bool true) (lt_t k n) (pw_nil ?_);simp only [pv]
      iterate 9 go_step
      refine rp ?_;refine p_m ?_;refine p_m ?_;simp only [pv];refine p_v (.bool true) (exec_neq_k .i64 _ _ _ _ rfl k i rfl rfl true (by rw [decide_eq_false (by omega)]; rfl)) (pw_nil ?_);simp only [pv]
      obtain h1 | ⟨_, rB, _⟩ := (HB.out.below sb).at'
      ·exact absurd h1 (by omega)
      have orB := rB
      iterate 4 go_step
      refine wp_region_ewb (by kernel_rfl) [] [(0, false), (1, false), (2, false), (3, false), (4, false), (5, false), (6, false), (7, false), (8, false), (9, false), (10, false), (11, false), (12, false)] ?_ (by kernel_rfl)
      have cb := below_self sb
      have osb := sb
      have oho := ho
      have ohone := hone
      refine e_m ?_;refine e_m ?_;simp only [pv];refine e_v (.pointer (some ⟨gb, ob + i * 1, none⟩)) ((exec_index_s 30 _ _ rfl gb ob (n) (c) rfl (i) rfl (hlt) _ Tryz.underlying30 1 Tryz.sizeOf3)) ?_;simp only [pv];refine ew_loadk (by rfl) 3 _ rfl _ (ob + i * 1) rfl (fun _ hb => (orB.belowAll hb)) (.int .i64 ((pco Xs i).val : Nat)) hbi Tryz.isAgg3 ?_;refine e_m ?_;refine e_m ?_;simp only [pv];refine e_v (.pointer (some ⟨gb, ob + k * 1, none⟩)) ((exec_index_s 30 _ _ rfl gb ob (n) (c) rfl (k) rfl (hltk) _ Tryz.underlying30 1 Tryz.sizeOf3)) ?_;simp only [pv];refine ew_loadk (by rfl) 3 _ rfl _ (ob + k * 1) rfl (fun _ hb => (orB.belowAll hb)) (.int .i64 ((pco Xs k).val : Nat)) hbk Tryz.isAgg3 ?_;refine e_m ?_;simp only [pv];refine ew_call (by rfl) 98 _ _ rfl Tryz.func98 (by kernel_rfl) #[.int .i64 ((pco Xs i).val : Nat), .int .i64 ((pco Xs k).val : Nat), .int .i64 (Q : Nat)] rfl _ (fun w _ => hsu w) ?_;refine e_m ?_;simp only [pv];refine ew_call (by rfl) 97 _ _ rfl Tryz.func97 (by kernel_rfl) #[.int .i64 (D : Nat), .int .i64 (Q : Nat)] rfl _ (fun w _ => hiv w) ?_;refine ew_as (by rfl) rfl rfl ?_;simp only [pv];refine ew_nil ?_;intro wz hqb;replace ho := ho.below hqb;replace hone := hone.below hqb;replace sb := b_o sb hqb;clear hqb cb osb oho ohone;clear rB orB hsu hiv
      obtain h1 | ⟨_, rB, _⟩ := (HB.out.below sb).at'
      ·exact absurd h1 (by omega)
      iterate 2 go_step
      refine rp ?_;refine p_m ?_;refine p_m ?_;refine p_m ?_;simp only [pv];refine p_x k hltk Tryz.underlying30 Tryz.sizeOf3 ?_;simp only [pv];refine p_d (ob + k * 1) rB (.int .i64 ((pco Xs k).val : Nat)) hbk Tryz.isAgg3 ?_;refine p_m ?_;simp only [pv];refine p_c 98 Tryz.func98 #[.int .i64 0, .int .i64 ((pco Xs k).val : Nat), .int .i64 (Q : Nat)] (hs0 _) ?_;intro z11006 k;simp only [pv];replace ho := ho.below k.nil;replace hone := hone.below k.nil;replace sb := kk sb k;clear k;refine p_m ?_;refine p_m ?_;simp only [pv];refine p_c 64 Tryz.func64 #[.int .i64 (S0 : Nat), .int .i64 (BY : Nat), .int .i64 (Q : Nat)] (hmu _) ?_;intro z11009 k;simp only [pv];replace ho := ho.below k.nil;replace hone := hone.below k.nil;replace sb := kk sb k;clear k;refine p_m ?_;simp only [pv];refine pw_litr (by rfl) 30 3 2 _ rfl #[.int .i64 (PR : Nat), .int .i64 (BY : Nat)] ie _ Tryz.underlying30 hie hz hs3 hs4 [(0, .int .i64 (PR : Nat)), (1, .int .i64 (BY : Nat))] rfl (hl2 _ _) ?_;intro gX z11011 n0 rX k;simp only [pv]
      have bX := Nat.le_trans sb.size n0
      clear n0;replace ho := ho.below k.nil;replace hone := hone.below k.nil;replace sb := kk sb k;clear k;refine p_m ?_;simp only [pv];refine p_f 99 Tryz.func99 #[v1, .slice (some ⟨gX, 0, none⟩) 2 2, .int .i64 (Q : Nat)] (hml _ hone gX rX) ?_
      rintro _ z11013 ⟨v2, rfl, h2, hb⟩
      refine ⟨_, rfl, ?_⟩
      simp only [pv]
      have k := Kept.ofBelow hb
      clear hb;replace ho := ho.below k.nil;replace hone := hone.below k.nil;replace rX := k.ro rX;replace sb := kk sb k;clear k;refine p_a (pw_nil ?_);simp only [pv];clear rB
      iterate 2 go_step
      refine rp ?_;refine p_m ?_;simp only [pv];refine p_v (.int .i64 ((k + 1 : Nat) : Int)) (x_a k 1) ?_;refine p_a (pw_nil ?_);simp only [pv]
      go_wp2
      go_roundg y
      case measure => omega
      case rel => exact ⟨k + 1, _, by omega, rfl, rfl, h2, ho, sb⟩
theorem rthrL {Q : Nat} [NeZero Q] (vx vy : Value) (Xs Ys : List (Fin Q)) (n : Nat) (w : World) (hx : Xs.length = n) (hy : Ys.length = n) (hn : n ≤ 100) (q : FdQ Q) (hq : Q < 4611686018427387904) (h1 : IlAt w vx Xs) (h2 : IlAt w vy Ys) :
  Calls Tryz.prog 63 #[vx, vy, .int .i64 (Q : Nat)] w fun e w' => ∃ v', e = .returned v' ∧ IlAt w' v' (pthr ivF (pco Xs) (pco Ys) n n) ∧ Below w.heap.size w w' := by
 obtain ⟨ab, c, gb, ob, bcs, tb, rfl, hc, hna⟩ := h1.nums hx
 obtain ⟨ae, ce, ge, oe, ecs, te, rfl, hce, hnb⟩ := h2.nums hy
 exact rthr_any ab ae n c ce Xs Ys gb ob ge oe bcs ecs tb te w hn q hq hna hnb
end Go.Proofs.YtgdalihjpemjiaaGreat
