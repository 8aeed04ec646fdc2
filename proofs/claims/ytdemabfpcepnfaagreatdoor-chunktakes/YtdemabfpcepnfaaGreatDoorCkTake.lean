/- chunk's joined, told, Take; slices.Equal of naturals. -/
import Derived.Test.YtdemabfpcepnfaaGreatDoorCkFun
import Derived.Test.YtdemabfpcepnfaaGreatDoorNBytes
namespace Go.Proofs.YtdemabfpcepnfaaGreatDoor
open Go.RowKit
set_option linter.unusedVariables false
theorem fill_max {z n : Nat} (hz : z ≤ 32) (hn : n ≤ 32) : (if IntKind.i64.wrap ((z : Int) - (n : Int)) > 0 then IntKind.i64.wrap ((z : Int) - (n : Int)) else 0) = ((z - n : Nat) : Int) := by
 rw [IntKind.wrap_i64]
 split <;> omega
set_option maxRecDepth 100000 in
set_option maxHeartbeats 2000000 in
theorem joined_any (v : Option Addr) (z n ca : Nat) (ab : Option Addr) (f : Nat → Nat) (gb ob : Nat) (bcs : Array Value) (tb : TypeId) (w : World) (hz2 : z ≤ 32) (hn : n ≤ 100) (h : SzAt w v z) (hna : NatsAt w ab n f gb ob bcs tb) :
  Calls Tryz.prog 36 #[.pointer v, .slice ab n ca] w fun e w' => e = .returned (.string ⟨(jn z f n).toArray⟩) ∧ Below w.heap.size w w' := by
 have HB : Hid (NatsAt w ab n f gb ob bcs tb) := hna
 have HJ : Hid (∀ k, k < n → (jn z f k).length + 64 ≤ 100000 ∧ need (f k) ≤ 32) := fun k hk => by
  have h1 : ∀ k, k ≤ n → (jn z f k).length ≤ 32 * k := by
   intro k
   induction k with
   | zero => intro _; simp [jn]
   | succ k ih =>
    intro hk
    have := flz_le hz2 (hna.lt k (by omega))
    have := ih (by omega)
    rw [jn, List.length_append]
    omega
  have := h1 k (by omega)
  exact ⟨by omega, need_le _ (hna.lt k hk)⟩
 have hlt6 := hna.lt
 clear hna
 go_enter Tryz.func36, Tryz.ntmps36
 have sb := sbmk w
 (repeat ((fail_if_success with_reducible refine rg ?_); go_step))
 refine wp_region_pw ?_
 refine pw_move (by rfl) (.inr rfl) rfl ?_
 simp only [Act.put, pu]
 refine pw_nil ?_
 (repeat ((fail_if_success with_reducible refine rg ?_); go_step))
 refine wp_region_pw ?_
 refine pw_new (by rfl) 98 rfl _ zero_buk ?_
 intro g5 z1000 n0 r5 k
 simp only [Act.put, pu]
 have b5 := Nat.le_trans sb.size n0
 clear n0
 replace sb := sb.trans (k.below w.heap.size sb.size (by simp <;> omega))
 clear k
 refine pw_nil ?_
 have hB := BuAt.fresh b5 r5
 clear r5
 (repeat ((fail_if_success with_reducible refine rg ?_); go_step))
 refine wp_region_pw ?_
 refine pw_mv (by rfl) rfl rfl ?_
 simp only [Act.put, pu]
 refine pw_value (by rfl) (.int .i64 n) (exec_len_s 34 _ rfl ab n ca rfl sl_natsX) ?_
 simp only [Act.put, pu]
 refine pw_value (by rfl) (.int .i64 0) (fun _ => rfl) ?_
 simp only [Act.put, pu]
 refine pw_nil ?_
 go_wp2_with fail
 go_loopg [6, 7, 10] n (fun g s6 s7 s10 wr => ∃ k : Nat, k + g = n ∧ s10 = .int .i64 k ∧ BuAt wr w.heap.size g5 (jn z f k) ∧ Below w.heap.size w wr)
 case atStart => exact ⟨0, by omega, rfl, hB, sb⟩
 case round =>
  clear hB sb
  obtain ⟨k, hk, rfl, hB, sb⟩ := hrel
  cases gk with
  | zero =>
   obtain rfl : k = n := by omega
   clear hk HB HJ hlt6
   (repeat ((fail_if_success with_reducible refine rg ?_); go_step))
   refine wp_region_pw ?_
   refine pw_value (by rfl) (.bool false) (exec_lt_b _ _ _ _ rfl k k rfl rfl false (decide_eq_false (Int.lt_irrefl _))) ?_
   simp only [Act.put, pu]
   refine pw_nil ?_
   (repeat ((fail_if_success with_reducible refine rg ?_); go_step))
   refine wp_region_pw ?_
   refine pw_callE (by rfl) 59 _ _ rfl Tryz.func59 (by kernel_rfl) #[.pointer (some ⟨g5, 0, none⟩)] rfl (bstr_any w.heap.size g5 _ _ hB sb.size) ?_
   rintro _ z9000 ⟨rfl, hb⟩
   refine ⟨_, rfl, ?_⟩
   simp only [Act.put, pu]
   replace sb := sb.trans hb
   clear hb
   refine pw_as (by rfl) rfl rfl ?_
   simp only [Act.put, pu]
   refine pw_nil ?_
   go_wp2
   go_ret
   exact ⟨rfl, sb⟩
  | succ g =>
   have hlt : k < n := by omega
   obtain ⟨hj1, hj2⟩ := HJ.out k hlt
   have hfk := hlt6 k hlt
   have hby := fun w' => nbytes_any (f k) w' hfk
   rw [show bytesOf (f k) = ⟨(bytesL (f k) (need (f k))).toArray⟩ from rfl] at hby
   have hbl := bytesL_length (f k) (need (f k))
   have hmx := fill_max hz2 hj2
   have hjn : jn z f k ++ List.replicate (z - need (f k)) 0 ++ bytesL (f k) (need (f k)) = jn z f (k + 1) := by
    rw [jn, flz, List.append_assoc]
   generalize bytesL (f k) (need (f k)) = L at *
   generalize need (f k) = N at *
   obtain h0 | ⟨rfl, rB, hbt⟩ := (HB.out.below sb).at'
   ·exact absurd h0 (by omega)
   have hbt' := hbt k hlt
   clear hbt
   (repeat ((fail_if_success with_reducible refine rg ?_); go_step))
   refine wp_region_pw ?_
   refine pw_value (by rfl) (.bool true) (exec_lt_b _ _ _ _ rfl k n rfl rfl true (decide_eq_true (by omega))) ?_
   simp only [Act.put, pu]
   refine pw_nil ?_
   (repeat ((fail_if_success with_reducible refine rg ?_); go_step))
   refine wp_region_pw ?_
   refine pw_mv (by rfl) rfl rfl ?_
   simp only [Act.put, pu]
   refine pw_as (by rfl) rfl rfl ?_
   simp only [Act.put, pu]
   refine pw_nil ?_
   (repeat ((fail_if_success with_reducible refine rg ?_); go_step))
   refine wp_region_pw ?_
   refine pw_mv (by rfl) rfl rfl ?_
   simp only [Act.put, pu]
   refine pw_mv (by rfl) rfl rfl ?_
   simp only [Act.put, pu]
   refine pw_value (by rfl) (.pointer (some ⟨gb, ob + k * 4, none⟩)) (exec_index_s 34 _ _ rfl gb ob n ca rfl k rfl hlt _ Tryz.underlying34 4 size_nat4) ?_
   simp only [Act.put, pu]
   refine pw_loadm (by rfl) 26 _ rfl _ (ob + k * 4) rfl rB (natC (f k)) hbt' _ Tryz.underlying26 rfl size_nat ?_
   simp only [Act.put, pu]
   refine pw_callB (by rfl) 57 _ _ rfl Tryz.func57 (by kernel_rfl) #[.agg (natC (f k))] rfl _ (hby _) ?_
   intro z5004 k
   simp only [Act.put, pu]
   replace hB := hB.below k.nil
   replace sb := sb.trans (k.below w.heap.size sb.size (by simp <;> omega))
   clear k
   refine pw_as (by rfl) rfl rfl ?_
   simp only [Act.put, pu]
   refine pw_nil ?_
   clear rB hbt' hby
   (repeat ((fail_if_success with_reducible refine rg ?_); go_step))
   refine wp_region_pw ?_
   refine pw_mv (by rfl) rfl rfl ?_
   simp only [Act.put, pu]
   refine pw_callB (by rfl) 52 _ _ rfl Tryz.func52 (by kernel_rfl) #[.pointer v] rfl _ (h _ sb) ?_
   intro z6001 k
   simp only [Act.put, pu]
   replace hB := hB.below k.nil
   replace sb := sb.trans (k.below w.heap.size sb.size (by simp <;> omega))
   clear k
   refine pw_mv (by rfl) rfl rfl ?_
   simp only [Act.put, pu]
   refine pw_value (by rfl) (.int .i64 N) (fun w' => (y_lenS _ _ rfl L rfl Tryz.underlying9 w').trans (by rw [hbl])) ?_
   simp only [Act.put, pu]
   refine pw_value (by rfl) (.int .i64 (IntKind.i64.wrap ((z : Int) - (N : Int)))) (y_subI _ _ _ _ rfl z N _ rfl rfl rfl) ?_
   simp only [Act.put, pu]
   refine pw_value (by rfl) (.int .i64 ((z - N : Nat) : Int)) (y_max _ _ _ rfl 0 _ _ rfl rfl hmx) ?_
   simp only [Act.put, pu]
   refine pw_callB (by rfl) 53 _ _ rfl Tryz.func53 (by kernel_rfl) #[.string { data := #[0] }, .int .i64 ((z - N : Nat) : Int)] rfl _ (repeat_any _ _ (by omega)) ?_
   intro z6006 k
   simp only [Act.put, pu]
   replace hB := hB.below k.nil
   replace sb := sb.trans (k.below w.heap.size sb.size (by simp <;> omega))
   clear k
   refine pw_callE (by rfl) 58 _ _ rfl Tryz.func58 (by kernel_rfl) #[.pointer (some ⟨g5, 0, none⟩), .string ⟨(List.replicate (z - N) 0).toArray⟩] rfl (wstr_any w.heap.size g5 _ _ _ hB (by rw [List.length_replicate]; omega) sb.size) ?_
   clear hB
   rintro _ z6007 ⟨rfl, hB, hb⟩
   refine ⟨_, rfl, ?_⟩
   simp only [Act.put, pu]
   replace sb := sb.trans hb
   clear hb
   refine pw_nil ?_
   (repeat ((fail_if_success with_reducible refine rg ?_); go_step))
   refine wp_region_pw ?_
   refine pw_mv (by rfl) rfl rfl ?_
   simp only [Act.put, pu]
   refine pw_callE (by rfl) 58 _ _ rfl Tryz.func58 (by kernel_rfl) #[.pointer (some ⟨g5, 0, none⟩), .string ⟨(L).toArray⟩] rfl (wstr_any w.heap.size g5 _ _ _ hB (by rw [List.length_append, List.length_replicate, hbl]; omega) sb.size) ?_
   clear hB
   rintro _ z7001 ⟨rfl, hB, hb⟩
   refine ⟨_, rfl, ?_⟩
   simp only [Act.put, pu]
   replace sb := sb.trans hb
   clear hb
   refine pw_nil ?_
   rw [hjn] at hB
   (repeat ((fail_if_success with_reducible refine rg ?_); go_step))
   refine wp_region_pw ?_
   refine pw_value (by rfl) (.int .i64 ((k + 1 : Nat) : Int)) (exec_add_in _ _ _ _ rfl k 1 rfl rfl (by omega)) ?_
   simp only [Act.put, pu]
   refine pw_mv (by rfl) rfl rfl ?_
   simp only [Act.put, pu]
   refine pw_nil ?_
   go_wp2
   go_roundg g
   case measure => omega
   case rel => exact ⟨k + 1, by omega, rfl, hB, sb⟩
set_option maxRecDepth 100000 in
set_option maxHeartbeats 2000000 in
theorem told_no (s : List UInt8) (w : World) (hs : 0 < s.length) (hd : decide ((yb s 0 : Int) = 0) = true) :
  Calls Tryz.prog 35 #[.string ⟨(s).toArray⟩] w fun e w' => e = .returned (.tuple #[.string ⟨([] : List UInt8).toArray⟩, .bool false]) ∧ Below w.heap.size w w' := by
 go_enter Tryz.func35, Tryz.ntmps35
 have sb := sbmk w
 (repeat ((fail_if_success with_reducible refine rg ?_); go_step))
 refine wp_region_pw ?_
 refine pw_move (by rfl) (.inr rfl) rfl ?_
 simp only [Act.put, pu]
 refine pw_value (by rfl) (.bool false) (fun _ => rfl) ?_
 simp only [Act.put, pu]
 refine pw_nil ?_
 (repeat ((fail_if_success with_reducible refine rg ?_); go_step))
 refine wp_region_pw ?_
 refine pw_mv (by rfl) rfl rfl ?_
 simp only [Act.put, pu]
 refine pw_value (by rfl) (.int .u8 (yb s 0 : Nat)) (y_index _ _ _ rfl Tryz.underlying9 s rfl .i64 0 rfl hs) ?_
 simp only [Act.put, pu]
 refine pw_value (by rfl) (.bool true) (exec_eql_k .u8 _ _ _ _ rfl (yb s 0 : Nat) 0 rfl rfl true hd) ?_
 simp only [Act.put, pu]
 refine pw_nil ?_
 (repeat ((fail_if_success with_reducible refine rg ?_); go_step))
 refine wp_region_pw ?_
 refine pw_move (by rfl) (.inr rfl) rfl ?_
 simp only [Act.put, pu]
 refine pw_value (by rfl) (.bool false) (fun _ => rfl) ?_
 simp only [Act.put, pu]
 refine pw_nil ?_
 go_wp2
 go_ret2
 exact ⟨rfl, sb⟩
set_option maxRecDepth 100000 in
set_option maxHeartbeats 2000000 in
theorem told_yes (s V : List UInt8) (Y : Nat) (w : World) (hY : yb s 0 = Y) (hs : 0 < s.length) (hs2 : s.length ≤ 100000) (hd : decide ((Y : Int) = 0) = false) (hy : Y < 256) (hy0 : ¬ Y = 0) (hV : (s.take (min Y s.length)).drop 1 = V) :
  Calls Tryz.prog 35 #[.string ⟨(s).toArray⟩] w fun e w' => e = .returned (.tuple #[.string ⟨(V).toArray⟩, .bool true]) ∧ Below w.heap.size w w' := by
 go_enter Tryz.func35, Tryz.ntmps35
 have sb := sbmk w
 (repeat ((fail_if_success with_reducible refine rg ?_); go_step))
 refine wp_region_pw ?_
 refine pw_move (by rfl) (.inr rfl) rfl ?_
 simp only [Act.put, pu]
 refine pw_value (by rfl) (.bool false) (fun _ => rfl) ?_
 simp only [Act.put, pu]
 refine pw_nil ?_
 (repeat ((fail_if_success with_reducible refine rg ?_); go_step))
 refine wp_region_pw ?_
 refine pw_mv (by rfl) rfl rfl ?_
 simp only [Act.put, pu]
 refine pw_value (by rfl) (.int .u8 (Y : Nat)) (fun w' => (y_index _ _ _ rfl Tryz.underlying9 s rfl .i64 0 rfl hs w').trans (by rw [hY])) ?_
 simp only [Act.put, pu]
 refine pw_value (by rfl) (.bool false) (exec_eql_k .u8 _ _ _ _ rfl (Y : Nat) 0 rfl rfl false hd) ?_
 simp only [Act.put, pu]
 refine pw_nil ?_
 (repeat ((fail_if_success with_reducible refine rg ?_); go_step))
 refine wp_region_pw ?_
 refine pw_mv (by rfl) rfl rfl ?_
 simp only [Act.put, pu]
 refine pw_mv (by rfl) rfl rfl ?_
 simp only [Act.put, pu]
 refine pw_value (by rfl) (.int .u8 (Y : Nat)) (fun w' => (y_index _ _ _ rfl Tryz.underlying9 s rfl .i64 0 rfl hs w').trans (by rw [hY])) ?_
 simp only [Act.put, pu]
 refine pw_value (by rfl) (.int .i64 (Y : Nat)) (y_conv _ _ _ rfl .u8 .i64 Tryz.underlying5 Tryz.underlying3 (Y : Nat) _ rfl (by rw [IntKind.wrap_i64]; omega)) ?_
 simp only [Act.put, pu]
 refine pw_mv (by rfl) rfl rfl ?_
 simp only [Act.put, pu]
 refine pw_value (by rfl) (.int .i64 s.length) (y_lenS _ _ rfl s rfl Tryz.underlying9) ?_
 simp only [Act.put, pu]
 refine pw_value (by rfl) (.int .i64 ((min Y s.length : Nat) : Int)) (y_min _ _ _ rfl Y s.length _ rfl rfl rfl) ?_
 simp only [Act.put, pu]
 refine pw_value (by rfl) (.string ⟨(V).toArray⟩) (y_mid _ _ _ _ Tryz.underlying9 rfl s 1 (min Y s.length) rfl rfl rfl (by omega) (by omega) _ hV) ?_
 simp only [Act.put, pu]
 refine pw_as (by rfl) rfl rfl ?_
 simp only [Act.put, pu]
 refine pw_value (by rfl) (.bool true) (fun _ => rfl) ?_
 simp only [Act.put, pu]
 refine pw_nil ?_
 go_wp2
 go_ret2
 exact ⟨rfl, sb⟩
theorem td_no {s : List UInt8} (h0 : yb s 0 = 0) : tdT s = false := by
 unfold tdT
 rw [show (s.getD 0 0).toNat = yb s 0 from rfl, h0]
 rfl
theorem td_yes {s : List UInt8} (h0 : ¬ yb s 0 = 0) : tdT s = true ∧ (s.take (min (yb s 0) s.length)).drop 1 = tdV s := by
 have hT : tdT s = true := by
  unfold tdT
  rw [show (s.getD 0 0).toNat = yb s 0 from rfl, decide_eq_false h0]
  rfl
 refine ⟨hT, ?_⟩
 unfold tdV
 rw [hT]
 rfl
theorem told_any (s : List UInt8) (w : World) (hs : 0 < s.length) (hs2 : s.length ≤ 100000) :
  Calls Tryz.prog 35 #[.string ⟨(s).toArray⟩] w fun e w' => e = .returned (.tuple #[.string ⟨(tdV s).toArray⟩, .bool (tdT s)]) ∧ Below w.heap.size w w' := by
 by_cases h0 : yb s 0 = 0
 ·rw [tdV_no (td_no h0), td_no h0]
  exact told_no s w hs (decide_eq_true (by omega))
 ·obtain ⟨hT, hV⟩ := td_yes h0
  rw [hT]
  exact told_yes s _ (yb s 0) w rfl hs hs2 (decide_eq_false (by omega)) (yb_lt s 0) h0 hV
set_option maxRecDepth 100000 in
set_option maxHeartbeats 2000000 in
theorem equal_len (n m ca ce : Nat) (ab ae : Option Addr) (w : World) (hnm : n ≠ m) :
  Calls Tryz.prog 37 #[.slice ab n ca, .slice ae m ce] w fun e w' => e = .returned (.bool false) ∧ Below w.heap.size w w' := by
 go_enter Tryz.func37, Tryz.ntmps37
 have sb := sbmk w
 (repeat ((fail_if_success with_reducible refine rg ?_); go_step))
 refine wp_region_pw ?_
 refine pw_value (by rfl) (.bool false) (fun _ => rfl) ?_
 simp only [Act.put, pu]
 refine pw_nil ?_
 (repeat ((fail_if_success with_reducible refine rg ?_); go_step))
 refine wp_region_pw ?_
 refine pw_mv (by rfl) rfl rfl ?_
 simp only [Act.put, pu]
 refine pw_value (by rfl) (.int .i64 n) (exec_len_s 34 _ rfl ab n ca rfl sl_natsX) ?_
 simp only [Act.put, pu]
 refine pw_mv (by rfl) rfl rfl ?_
 simp only [Act.put, pu]
 refine pw_value (by rfl) (.int .i64 m) (exec_len_s 34 _ rfl ae m ce rfl sl_natsX) ?_
 simp only [Act.put, pu]
 refine pw_value (by rfl) (.bool true) (exec_neq_k .i64 _ _ _ _ rfl n m rfl rfl true (by rw [decide_eq_false (by omega)]; rfl)) ?_
 simp only [Act.put, pu]
 refine pw_nil ?_
 (repeat ((fail_if_success with_reducible refine rg ?_); go_step))
 refine wp_region_pw ?_
 refine pw_value (by rfl) (.bool false) (fun _ => rfl) ?_
 simp only [Act.put, pu]
 refine pw_nil ?_
 go_wp2
 go_ret
 exact ⟨rfl, sb⟩
set_option maxRecDepth 100000 in
set_option maxHeartbeats 2000000 in
theorem equal_any (n : Nat) (ca ce : Nat) (ab ae : Option Addr) (f h : Nat → Nat) (gb ob ge oe : Nat) (bcs ecs : Array Value) (tb te : TypeId) (w : World) (B : Bool) (hB : B = true ↔ ∀ k, k < n → f k = h k) (hn : n < 9223372036854775808) (hna : NatsAt w ab n f gb ob bcs tb) (hnb : NatsAt w ae n h ge oe ecs te) :
  Calls Tryz.prog 37 #[.slice ab n ca, .slice ae n ce] w fun e w' => e = .returned (.bool B) ∧ Below w.heap.size w w' := by
 have HB : Hid (NatsAt w ab n f gb ob bcs tb) := hna
 have HE : Hid (NatsAt w ae n h ge oe ecs te) := hnb
 have HQ : Hid (B = true ↔ ∀ k, k < n → f k = h k) := hB
 clear hna hnb hB
 go_enter Tryz.func37, Tryz.ntmps37
 have sb := sbmk w
 (repeat ((fail_if_success with_reducible refine rg ?_); go_step))
 refine wp_region_pw ?_
 refine pw_value (by rfl) (.bool false) (fun _ => rfl) ?_
 simp only [Act.put, pu]
 refine pw_nil ?_
 (repeat ((fail_if_success with_reducible refine rg ?_); go_step))
 refine wp_region_pw ?_
 refine pw_mv (by rfl) rfl rfl ?_
 simp only [Act.put, pu]
 refine pw_value (by rfl) (.int .i64 n) (exec_len_s 34 _ rfl ab n ca rfl sl_natsX) ?_
 simp only [Act.put, pu]
 refine pw_mv (by rfl) rfl rfl ?_
 simp only [Act.put, pu]
 refine pw_value (by rfl) (.int .i64 n) (exec_len_s 34 _ rfl ae n ce rfl sl_natsX) ?_
 simp only [Act.put, pu]
 refine pw_value (by rfl) (.bool false) (exec_neq_k .i64 _ _ _ _ rfl n n rfl rfl false (by rw [decide_eq_true rfl]; rfl)) ?_
 simp only [Act.put, pu]
 refine pw_nil ?_
 (repeat ((fail_if_success with_reducible refine rg ?_); go_step))
 refine wp_region_pw ?_
 refine pw_mv (by rfl) rfl rfl ?_
 simp only [Act.put, pu]
 refine pw_value (by rfl) (.int .i64 n) (exec_len_s 34 _ rfl ab n ca rfl sl_natsX) ?_
 simp only [Act.put, pu]
 refine pw_value (by rfl) (.int .i64 0) (fun _ => rfl) ?_
 simp only [Act.put, pu]
 refine pw_nil ?_
 go_wp2_with fail
 go_loopg [5, 13] n (fun g s5 s13 wr => ∃ i : Nat, i + g = n ∧ s13 = .int .i64 i ∧ Hid (∀ k, k < i → f k = h k) ∧ Below w.heap.size w wr)
 case atStart => exact ⟨0, by omega, rfl, (show ∀ k, k < 0 → f k = h k from fun k hk => by omega), sb⟩
 case round =>
  clear sb
  obtain ⟨i, hi, rfl, HP, sb⟩ := hrel
  cases gk with
  | zero =>
   obtain rfl : i = n := by omega
   obtain rfl : B = true := HQ.out.2 HP.out
   clear hi
   (repeat ((fail_if_success with_reducible refine rg ?_); go_step))
   refine wp_region_pw ?_
   refine pw_value (by rfl) (.bool false) (exec_lt_b _ _ _ _ rfl i i rfl rfl false (decide_eq_false (Int.lt_irrefl _))) ?_
   simp only [Act.put, pu]
   refine pw_nil ?_
   (repeat ((fail_if_success with_reducible refine rg ?_); go_step))
   refine wp_region_pw ?_
   refine pw_value (by rfl) (.bool true) (fun _ => rfl) ?_
   simp only [Act.put, pu]
   refine pw_nil ?_
   go_wp2
   go_ret
   exact ⟨rfl, sb⟩
  | succ g =>
   have hlt : i < n := by omega
   (repeat ((fail_if_success with_reducible refine rg ?_); go_step))
   refine wp_region_pw ?_
   refine pw_value (by rfl) (.bool true) (exec_lt_b _ _ _ _ rfl i n rfl rfl true (decide_eq_true (by omega))) ?_
   simp only [Act.put, pu]
   refine pw_nil ?_
   (repeat ((fail_if_success with_reducible refine rg ?_); go_step))
   refine wp_region_pw ?_
   refine pw_mv (by rfl) rfl rfl ?_
   simp only [Act.put, pu]
   refine pw_as (by rfl) rfl rfl ?_
   simp only [Act.put, pu]
   refine pw_nil ?_
   by_cases he : f i = h i
   ·have HP2 : Hid (∀ k, k < i + 1 → f k = h k) := fun k hk => by
     by_cases hki : k = i
     ·subst hki; exact he
     ·exact HP.out k (by omega)
    clear HP
    obtain h0 | ⟨rfl, rB, hbt⟩ := (HB.out.below sb).at'
    ·exact absurd h0 (by omega)
    obtain h0 | ⟨rfl, rE, het⟩ := (HE.out.below sb).at'
    ·exact absurd h0 (by omega)
    have hbt' := hbt i hlt
    have het' := het i hlt
    clear hbt het
    (repeat ((fail_if_success with_reducible refine rg ?_); go_step))
    refine wp_region_qw (by kernel_rfl) (by kernel_rfl) ?_
    refine qw_move (by rfl) rfl rfl ?_
    simp only [Act.put, pu]
    refine qw_move (by rfl) rfl rfl ?_
    simp only [Act.put, pu]
    refine qw_value (by rfl) (.pointer (some ⟨gb, ob + i * 4, none⟩)) ((exec_index_s 34 _ _ rfl gb ob n ca rfl i rfl hlt _ Tryz.underlying34 4 size_nat4)) ?_
    simp only [Act.put, pu]
    refine qw_loadmR (by rfl) 26 _ rfl _ (ob + i * 4) rfl rB (natC (f i)) hbt' _ Tryz.underlying26 rfl size_nat ?_
    simp only [Act.put, pu]
    refine qw_move (by rfl) rfl rfl ?_
    simp only [Act.put, pu]
    refine qw_move (by rfl) rfl rfl ?_
    simp only [Act.put, pu]
    refine qw_value (by rfl) (.pointer (some ⟨ge, oe + i * 4, none⟩)) ((exec_index_s 34 _ _ rfl ge oe n ce rfl i rfl hlt _ Tryz.underlying34 4 size_nat4)) ?_
    simp only [Act.put, pu]
    refine qw_loadmR (by rfl) 26 _ rfl _ (oe + i * 4) rfl rE (natC (h i)) het' _ Tryz.underlying26 rfl size_nat ?_
    simp only [Act.put, pu]
    refine qw_value (by rfl) (.bool false) ((fun w' => (exec_neq_nat _ _ _ rfl (f i) (h i) rfl rfl w').trans (by rw [he, neq_no]))) ?_
    simp only [Act.put, pu]
    refine qw_nil ?_
    intro w6 hqb
    replace sb := below_on sb (Nat.le_refl _) hqb
    clear hqb
    clear rB rE hbt' het'
    (repeat ((fail_if_success with_reducible refine rg ?_); go_step))
    refine wp_region_pw ?_
    refine pw_value (by rfl) (.int .i64 ((i + 1 : Nat) : Int)) (exec_add_in _ _ _ _ rfl i 1 rfl rfl (by omega)) ?_
    simp only [Act.put, pu]
    refine pw_mv (by rfl) rfl rfl ?_
    simp only [Act.put, pu]
    refine pw_nil ?_
    go_wp2
    go_roundg g
    case measure => omega
    case rel => exact ⟨i + 1, by omega, rfl, HP2, sb⟩
   ·obtain rfl : B = false := by
     cases B with
     | false => rfl
     | true => exact absurd (HQ.out.1 rfl i hlt) he
    have hf1 := HB.out.lt i hlt
    have hf2 := HE.out.lt i hlt
    obtain h0 | ⟨rfl, rB, hbt⟩ := (HB.out.below sb).at'
    ·exact absurd h0 (by omega)
    obtain h0 | ⟨rfl, rE, het⟩ := (HE.out.below sb).at'
    ·exact absurd h0 (by omega)
    have hbt' := hbt i hlt
    have het' := het i hlt
    clear hbt het
    (repeat ((fail_if_success with_reducible refine rg ?_); go_step))
    refine wp_region_qw (by kernel_rfl) (by kernel_rfl) ?_
    refine qw_move (by rfl) rfl rfl ?_
    simp only [Act.put, pu]
    refine qw_move (by rfl) rfl rfl ?_
    simp only [Act.put, pu]
    refine qw_value (by rfl) (.pointer (some ⟨gb, ob + i * 4, none⟩)) ((exec_index_s 34 _ _ rfl gb ob n ca rfl i rfl hlt _ Tryz.underlying34 4 size_nat4)) ?_
    simp only [Act.put, pu]
    refine qw_loadmR (by rfl) 26 _ rfl _ (ob + i * 4) rfl rB (natC (f i)) hbt' _ Tryz.underlying26 rfl size_nat ?_
    simp only [Act.put, pu]
    refine qw_move (by rfl) rfl rfl ?_
    simp only [Act.put, pu]
    refine qw_move (by rfl) rfl rfl ?_
    simp only [Act.put, pu]
    refine qw_value (by rfl) (.pointer (some ⟨ge, oe + i * 4, none⟩)) ((exec_index_s 34 _ _ rfl ge oe n ce rfl i rfl hlt _ Tryz.underlying34 4 size_nat4)) ?_
    simp only [Act.put, pu]
    refine qw_loadmR (by rfl) 26 _ rfl _ (oe + i * 4) rfl rE (natC (h i)) het' _ Tryz.underlying26 rfl size_nat ?_
    simp only [Act.put, pu]
    refine qw_value (by rfl) (.bool true) ((fun w' => (exec_neq_nat _ _ _ rfl (f i) (h i) rfl rfl w').trans (by rw [neq_yes _ _ hf1 hf2 he]))) ?_
    simp only [Act.put, pu]
    refine qw_nil ?_
    intro w6 hqb
    replace sb := below_on sb (Nat.le_refl _) hqb
    clear hqb
    clear rB rE hbt' het'
    (repeat ((fail_if_success with_reducible refine rg ?_); go_step))
    refine wp_region_pw ?_
    refine pw_value (by rfl) (.bool false) (fun _ => rfl) ?_
    simp only [Act.put, pu]
    refine pw_nil ?_
    go_wp2
    go_ret
    exact ⟨rfl, sb⟩
set_option maxRecDepth 100000 in
set_option maxHeartbeats 2000000 in
theorem take_nog (v : Option Addr) (n ca : Nat) (ab : Option Addr) (w : World) (h : SzAt w v 0) :
  Calls Tryz.prog 14 #[.pointer v, .slice ab n ca] w fun e w' => e = .returned (.tuple #[.string ⟨([] : List UInt8).toArray⟩, .bool false, .int .i64 1]) ∧ Below w.heap.size w w' := by
 go_enter Tryz.func14, Tryz.ntmps14
 have sb := sbmk w
 (repeat ((fail_if_success with_reducible refine rg ?_); go_step))
 refine wp_region_pw ?_
 refine pw_move (by rfl) (.inr rfl) rfl ?_
 simp only [Act.put, pu]
 refine pw_value (by rfl) (.bool false) (fun _ => rfl) ?_
 simp only [Act.put, pu]
 refine pw_value (by rfl) (.int .i64 0) (fun _ => rfl) ?_
 simp only [Act.put, pu]
 refine pw_nil ?_
 (repeat ((fail_if_success with_reducible refine rg ?_); go_step))
 refine wp_region_pw ?_
 refine pw_mv (by rfl) rfl rfl ?_
 simp only [Act.put, pu]
 refine pw_callB (by rfl) 28 _ _ rfl Tryz.func28 (by kernel_rfl) #[.pointer v] rfl _ (isG_any v 0 false _ rfl (h.below sb)) ?_
 intro z1001 k
 simp only [Act.put, pu]
 replace sb := sb.trans (k.below w.heap.size sb.size (by simp <;> omega))
 clear k
 refine pw_value (by rfl) (.bool true) (exec_not _ _ rfl false rfl) ?_
 simp only [Act.put, pu]
 refine pw_nil ?_
 (repeat ((fail_if_success with_reducible refine rg ?_); go_step))
 refine wp_region_pw ?_
 refine pw_move (by rfl) (.inr rfl) rfl ?_
 simp only [Act.put, pu]
 refine pw_value (by rfl) (.bool false) (fun _ => rfl) ?_
 simp only [Act.put, pu]
 refine pw_value (by rfl) (.int .i64 1) (fun _ => rfl) ?_
 simp only [Act.put, pu]
 refine pw_nil ?_
 go_wp2
 go_ret3
 exact ⟨rfl, sb⟩
set_option maxRecDepth 100000 in
set_option maxHeartbeats 2000000 in
theorem take_few (v : Option Addr) (z n ca : Nat) (ab : Option Addr) (w : World) (hz : 0 < z) (hn : n = 0 ∨ 25 < n) (h : SzAt w v z) :
  Calls Tryz.prog 14 #[.pointer v, .slice ab n ca] w fun e w' => e = .returned (.tuple #[.string ⟨([] : List UInt8).toArray⟩, .bool false, .int .i64 4]) ∧ Below w.heap.size w w' := by
 go_enter Tryz.func14, Tryz.ntmps14
 have sb := sbmk w
 (repeat ((fail_if_success with_reducible refine rg ?_); go_step))
 refine wp_region_pw ?_
 refine pw_move (by rfl) (.inr rfl) rfl ?_
 simp only [Act.put, pu]
 refine pw_value (by rfl) (.bool false) (fun _ => rfl) ?_
 simp only [Act.put, pu]
 refine pw_value (by rfl) (.int .i64 0) (fun _ => rfl) ?_
 simp only [Act.put, pu]
 refine pw_nil ?_
 (repeat ((fail_if_success with_reducible refine rg ?_); go_step))
 refine wp_region_pw ?_
 refine pw_mv (by rfl) rfl rfl ?_
 simp only [Act.put, pu]
 refine pw_callB (by rfl) 28 _ _ rfl Tryz.func28 (by kernel_rfl) #[.pointer v] rfl _ (isG_any v z true _ (decide_eq_true (by omega)) (h.below sb)) ?_
 intro z1001 k
 simp only [Act.put, pu]
 replace sb := sb.trans (k.below w.heap.size sb.size (by simp <;> omega))
 clear k
 refine pw_value (by rfl) (.bool false) (exec_not _ _ rfl true rfl) ?_
 simp only [Act.put, pu]
 refine pw_nil ?_
 by_cases h0 : n = 0
 ·clear hn
  (repeat ((fail_if_success with_reducible refine rg ?_); go_step))
  refine wp_region_pw ?_
  refine pw_mv (by rfl) rfl rfl ?_
  simp only [Act.put, pu]
  refine pw_value (by rfl) (.int .i64 n) (exec_len_s 34 _ rfl ab n ca rfl sl_natsX) ?_
  simp only [Act.put, pu]
  refine pw_value (by rfl) (.bool true) (exec_eql_k .i64 _ _ _ _ rfl n 0 rfl rfl true (decide_eq_true (by omega))) ?_
  simp only [Act.put, pu]
  refine pw_mv (by rfl) rfl rfl ?_
  simp only [Act.put, pu]
  refine pw_skip (by rfl) ?_
  simp only [Act.put, pu]
  refine pw_skip (by rfl) ?_
  simp only [Act.put, pu]
  refine pw_skip (by rfl) ?_
  simp only [Act.put, pu]
  refine pw_pick (by rfl) true (v := .bool true) rfl rfl rfl ?_
  simp only [Act.put, pu]
  refine pw_nil ?_
  (repeat ((fail_if_success with_reducible refine rg ?_); go_step))
  refine wp_region_pw ?_
  refine pw_move (by rfl) (.inr rfl) rfl ?_
  simp only [Act.put, pu]
  refine pw_value (by rfl) (.bool false) (fun _ => rfl) ?_
  simp only [Act.put, pu]
  refine pw_value (by rfl) (.int .i64 4) (fun _ => rfl) ?_
  simp only [Act.put, pu]
  refine pw_nil ?_
  go_wp2
  go_ret3
  exact ⟨rfl, sb⟩
 ·have h25 : 25 < n := hn.resolve_left h0
  clear hn
  (repeat ((fail_if_success with_reducible refine rg ?_); go_step))
  refine wp_region_pw ?_
  refine pw_mv (by rfl) rfl rfl ?_
  simp only [Act.put, pu]
  refine pw_value (by rfl) (.int .i64 n) (exec_len_s 34 _ rfl ab n ca rfl sl_natsX) ?_
  simp only [Act.put, pu]
  refine pw_value (by rfl) (.bool false) (exec_eql_k .i64 _ _ _ _ rfl n 0 rfl rfl false (decide_eq_false (by omega))) ?_
  simp only [Act.put, pu]
  refine pw_mv (by rfl) rfl rfl ?_
  simp only [Act.put, pu]
  refine pw_mv (by rfl) rfl rfl ?_
  simp only [Act.put, pu]
  refine pw_value (by rfl) (.int .i64 n) (exec_len_s 34 _ rfl ab n ca rfl sl_natsX) ?_
  simp only [Act.put, pu]
  refine pw_value (by rfl) (.bool true) (exec_gt_i _ _ _ _ rfl n 25 rfl rfl true (decide_eq_true (by omega))) ?_
  simp only [Act.put, pu]
  refine pw_pick (by rfl) false (v := .bool true) rfl rfl rfl ?_
  simp only [Act.put, pu]
  refine pw_nil ?_
  (repeat ((fail_if_success with_reducible refine rg ?_); go_step))
  refine wp_region_pw ?_
  refine pw_move (by rfl) (.inr rfl) rfl ?_
  simp only [Act.put, pu]
  refine pw_value (by rfl) (.bool false) (fun _ => rfl) ?_
  simp only [Act.put, pu]
  refine pw_value (by rfl) (.int .i64 4) (fun _ => rfl) ?_
  simp only [Act.put, pu]
  refine pw_nil ?_
  go_wp2
  go_ret3
  exact ⟨rfl, sb⟩
set_option maxRecDepth 100000 in
set_option maxHeartbeats 2000000 in
theorem take_big (v : Option Addr) (z n ca : Nat) (ab : Option Addr) (J V : List UInt8) (B : Bool) (w : World) (hz : 0 < z) (hn0 : ¬ n = 0) (hn : ¬ 25 < n) (h : SzAt w v z)
  (hjo : ∀ w', Below w.heap.size w w' → Calls Tryz.prog 36 #[.pointer v, .slice ab n ca] w' fun e w2 => e = .returned (.string ⟨(J).toArray⟩) ∧ Below w'.heap.size w' w2)
  (hto : ∀ w', Calls Tryz.prog 35 #[.string ⟨(J).toArray⟩] w' fun e w2 => e = .returned (.tuple #[.string ⟨(V).toArray⟩, .bool B]) ∧ Below w'.heap.size w' w2)
  (hpu : ∀ w', Below w.heap.size w w' → Calls Tryz.prog 9 #[.pointer v, .string ⟨(V).toArray⟩, .bool B] w' fun e w2 => e = .returned (.tuple #[.slice none 0 0, .int .i64 6]) ∧ Below w'.heap.size w' w2) :
  Calls Tryz.prog 14 #[.pointer v, .slice ab n ca] w fun e w' => e = .returned (.tuple #[.string ⟨([] : List UInt8).toArray⟩, .bool false, .int .i64 4]) ∧ Below w.heap.size w w' := by
 go_enter Tryz.func14, Tryz.ntmps14
 have sb := sbmk w
 (repeat ((fail_if_success with_reducible refine rg ?_); go_step))
 refine wp_region_pw ?_
 refine pw_move (by rfl) (.inr rfl) rfl ?_
 simp only [Act.put, pu]
 refine pw_value (by rfl) (.bool false) (fun _ => rfl) ?_
 simp only [Act.put, pu]
 refine pw_value (by rfl) (.int .i64 0) (fun _ => rfl) ?_
 simp only [Act.put, pu]
 refine pw_nil ?_
 (repeat ((fail_if_success with_reducible refine rg ?_); go_step))
 refine wp_region_pw ?_
 refine pw_mv (by rfl) rfl rfl ?_
 simp only [Act.put, pu]
 refine pw_callB (by rfl) 28 _ _ rfl Tryz.func28 (by kernel_rfl) #[.pointer v] rfl _ (isG_any v z true _ (decide_eq_true (by omega)) (h.below sb)) ?_
 intro z1001 k
 simp only [Act.put, pu]
 replace sb := sb.trans (k.below w.heap.size sb.size (by simp <;> omega))
 clear k
 refine pw_value (by rfl) (.bool false) (exec_not _ _ rfl true rfl) ?_
 simp only [Act.put, pu]
 refine pw_nil ?_
 ·skip
  (repeat ((fail_if_success with_reducible refine rg ?_); go_step))
  refine wp_region_pw ?_
  refine pw_mv (by rfl) rfl rfl ?_
  simp only [Act.put, pu]
  refine pw_value (by rfl) (.int .i64 n) (exec_len_s 34 _ rfl ab n ca rfl sl_natsX) ?_
  simp only [Act.put, pu]
  refine pw_value (by rfl) (.bool false) (exec_eql_k .i64 _ _ _ _ rfl n 0 rfl rfl false (decide_eq_false (by omega))) ?_
  simp only [Act.put, pu]
  refine pw_mv (by rfl) rfl rfl ?_
  simp only [Act.put, pu]
  refine pw_mv (by rfl) rfl rfl ?_
  simp only [Act.put, pu]
  refine pw_value (by rfl) (.int .i64 n) (exec_len_s 34 _ rfl ab n ca rfl sl_natsX) ?_
  simp only [Act.put, pu]
  refine pw_value (by rfl) (.bool false) (exec_gt_i _ _ _ _ rfl n 25 rfl rfl false (decide_eq_false (by omega))) ?_
  simp only [Act.put, pu]
  refine pw_pick (by rfl) false (v := .bool false) rfl rfl rfl ?_
  simp only [Act.put, pu]
  refine pw_nil ?_
  (repeat ((fail_if_success with_reducible refine rg ?_); go_step))
  refine wp_region_pw ?_
  refine pw_mv (by rfl) rfl rfl ?_
  simp only [Act.put, pu]
  refine pw_mv (by rfl) rfl rfl ?_
  simp only [Act.put, pu]
  refine pw_callB (by rfl) 36 _ _ rfl Tryz.func36 (by kernel_rfl) #[.pointer v, .slice ab n ca] rfl _ (hjo _ sb) ?_
  intro z5002 k
  simp only [Act.put, pu]
  replace sb := sb.trans (k.below w.heap.size sb.size (by simp <;> omega))
  clear k
  refine pw_callB (by rfl) 35 _ _ rfl Tryz.func35 (by kernel_rfl) #[.string ⟨(J).toArray⟩] rfl _ (hto _) ?_
  intro z5003 k
  simp only [Act.put, pu]
  replace sb := sb.trans (k.below w.heap.size sb.size (by simp <;> omega))
  clear k
  refine pw_mv (by rfl) rfl rfl ?_
  simp only [Act.put, pu]
  refine pw_ext (by rfl) rfl rfl rfl ?_
  simp only [Act.put, pu]
  refine pw_ext (by rfl) rfl rfl rfl ?_
  simp only [Act.put, pu]
  refine pw_as (by rfl) rfl rfl ?_
  simp only [Act.put, pu]
  refine pw_as (by rfl) rfl rfl ?_
  simp only [Act.put, pu]
  refine pw_nil ?_
  (repeat ((fail_if_success with_reducible refine rg ?_); go_step))
  refine wp_region_pw ?_
  refine pw_mv (by rfl) rfl rfl ?_
  simp only [Act.put, pu]
  refine pw_mv (by rfl) rfl rfl ?_
  simp only [Act.put, pu]
  refine pw_mv (by rfl) rfl rfl ?_
  simp only [Act.put, pu]
  refine pw_callB (by rfl) 9 _ _ rfl Tryz.func9 (by kernel_rfl) #[.pointer v, .string ⟨(V).toArray⟩, .bool B] rfl _ (hpu _ sb) ?_
  intro z6003 k
  simp only [Act.put, pu]
  replace sb := sb.trans (k.below w.heap.size sb.size (by simp <;> omega))
  clear k
  refine pw_mv (by rfl) rfl rfl ?_
  simp only [Act.put, pu]
  refine pw_ext (by rfl) rfl rfl rfl ?_
  simp only [Act.put, pu]
  refine pw_ext (by rfl) rfl rfl rfl ?_
  simp only [Act.put, pu]
  refine pw_as (by rfl) rfl rfl ?_
  simp only [Act.put, pu]
  refine pw_as (by rfl) rfl rfl ?_
  simp only [Act.put, pu]
  refine pw_nil ?_
  (repeat ((fail_if_success with_reducible refine rg ?_); go_step))
  refine wp_region_pw ?_
  refine pw_mv (by rfl) rfl rfl ?_
  simp only [Act.put, pu]
  refine pw_value (by rfl) (.bool true) (exec_neq_k .i64 _ _ _ _ rfl 6 0 rfl rfl true rfl) ?_
  simp only [Act.put, pu]
  refine pw_mv (by rfl) rfl rfl ?_
  simp only [Act.put, pu]
  refine pw_skip (by rfl) ?_
  simp only [Act.put, pu]
  refine pw_skip (by rfl) ?_
  simp only [Act.put, pu]
  refine pw_skip (by rfl) ?_
  simp only [Act.put, pu]
  refine pw_skip (by rfl) ?_
  simp only [Act.put, pu]
  refine pw_pick (by rfl) true (v := .bool true) rfl rfl rfl ?_
  simp only [Act.put, pu]
  refine pw_nil ?_
  (repeat ((fail_if_success with_reducible refine rg ?_); go_step))
  refine wp_region_pw ?_
  refine pw_move (by rfl) (.inr rfl) rfl ?_
  simp only [Act.put, pu]
  refine pw_value (by rfl) (.bool false) (fun _ => rfl) ?_
  simp only [Act.put, pu]
  refine pw_value (by rfl) (.int .i64 4) (fun _ => rfl) ?_
  simp only [Act.put, pu]
  refine pw_nil ?_
  go_wp2
  go_ret3
  exact ⟨rfl, sb⟩
set_option maxRecDepth 100000 in
set_option maxHeartbeats 2000000 in
theorem take_other (v : Option Addr) (z n ca : Nat) (ab : Option Addr) (J V : List UInt8) (B : Bool) (w : World) (hz : 0 < z) (hn0 : ¬ n = 0) (hn : ¬ 25 < n) (h : SzAt w v z)
  (hjo : ∀ w', Below w.heap.size w w' → Calls Tryz.prog 36 #[.pointer v, .slice ab n ca] w' fun e w2 => e = .returned (.string ⟨(J).toArray⟩) ∧ Below w'.heap.size w' w2)
  (hto : ∀ w', Calls Tryz.prog 35 #[.string ⟨(J).toArray⟩] w' fun e w2 => e = .returned (.tuple #[.string ⟨(V).toArray⟩, .bool B]) ∧ Below w'.heap.size w' w2) (m : Nat) (CS : Array Value)
  (hpu : ∀ w', Below w.heap.size w w' → Calls Tryz.prog 9 #[.pointer v, .string ⟨(V).toArray⟩, .bool B] w' fun e w2 => ∃ g, e = .returned (.tuple #[.slice (some ⟨g, 0, none⟩) m m, .int .i64 0]) ∧ w'.heap.size ≤ g ∧ Row w2 g CS 26 ∧ Below w'.heap.size w' w2)
  (heq : ∀ w', Below w.heap.size w w' → ∀ g, Row w' g CS 26 → Calls Tryz.prog 37 #[.slice (some ⟨g, 0, none⟩) m m, .slice ab n ca] w' fun e w2 => e = .returned (.bool false) ∧ Below w'.heap.size w' w2) :
  Calls Tryz.prog 14 #[.pointer v, .slice ab n ca] w fun e w' => e = .returned (.tuple #[.string ⟨([] : List UInt8).toArray⟩, .bool false, .int .i64 4]) ∧ Below w.heap.size w w' := by
 go_enter Tryz.func14, Tryz.ntmps14
 have sb := sbmk w
 (repeat ((fail_if_success with_reducible refine rg ?_); go_step))
 refine wp_region_pw ?_
 refine pw_move (by rfl) (.inr rfl) rfl ?_
 simp only [Act.put, pu]
 refine pw_value (by rfl) (.bool false) (fun _ => rfl) ?_
 simp only [Act.put, pu]
 refine pw_value (by rfl) (.int .i64 0) (fun _ => rfl) ?_
 simp only [Act.put, pu]
 refine pw_nil ?_
 (repeat ((fail_if_success with_reducible refine rg ?_); go_step))
 refine wp_region_pw ?_
 refine pw_mv (by rfl) rfl rfl ?_
 simp only [Act.put, pu]
 refine pw_callB (by rfl) 28 _ _ rfl Tryz.func28 (by kernel_rfl) #[.pointer v] rfl _ (isG_any v z true _ (decide_eq_true (by omega)) (h.below sb)) ?_
 intro z1001 k
 simp only [Act.put, pu]
 replace sb := sb.trans (k.below w.heap.size sb.size (by simp <;> omega))
 clear k
 refine pw_value (by rfl) (.bool false) (exec_not _ _ rfl true rfl) ?_
 simp only [Act.put, pu]
 refine pw_nil ?_
 ·skip
  (repeat ((fail_if_success with_reducible refine rg ?_); go_step))
  refine wp_region_pw ?_
  refine pw_mv (by rfl) rfl rfl ?_
  simp only [Act.put, pu]
  refine pw_value (by rfl) (.int .i64 n) (exec_len_s 34 _ rfl ab n ca rfl sl_natsX) ?_
  simp only [Act.put, pu]
  refine pw_value (by rfl) (.bool false) (exec_eql_k .i64 _ _ _ _ rfl n 0 rfl rfl false (decide_eq_false (by omega))) ?_
  simp only [Act.put, pu]
  refine pw_mv (by rfl) rfl rfl ?_
  simp only [Act.put, pu]
  refine pw_mv (by rfl) rfl rfl ?_
  simp only [Act.put, pu]
  refine pw_value (by rfl) (.int .i64 n) (exec_len_s 34 _ rfl ab n ca rfl sl_natsX) ?_
  simp only [Act.put, pu]
  refine pw_value (by rfl) (.bool false) (exec_gt_i _ _ _ _ rfl n 25 rfl rfl false (decide_eq_false (by omega))) ?_
  simp only [Act.put, pu]
  refine pw_pick (by rfl) false (v := .bool false) rfl rfl rfl ?_
  simp only [Act.put, pu]
  refine pw_nil ?_
  (repeat ((fail_if_success with_reducible refine rg ?_); go_step))
  refine wp_region_pw ?_
  refine pw_mv (by rfl) rfl rfl ?_
  simp only [Act.put, pu]
  refine pw_mv (by rfl) rfl rfl ?_
  simp only [Act.put, pu]
  refine pw_callB (by rfl) 36 _ _ rfl Tryz.func36 (by kernel_rfl) #[.pointer v, .slice ab n ca] rfl _ (hjo _ sb) ?_
  intro z5002 k
  simp only [Act.put, pu]
  replace sb := sb.trans (k.below w.heap.size sb.size (by simp <;> omega))
  clear k
  refine pw_callB (by rfl) 35 _ _ rfl Tryz.func35 (by kernel_rfl) #[.string ⟨(J).toArray⟩] rfl _ (hto _) ?_
  intro z5003 k
  simp only [Act.put, pu]
  replace sb := sb.trans (k.below w.heap.size sb.size (by simp <;> omega))
  clear k
  refine pw_mv (by rfl) rfl rfl ?_
  simp only [Act.put, pu]
  refine pw_ext (by rfl) rfl rfl rfl ?_
  simp only [Act.put, pu]
  refine pw_ext (by rfl) rfl rfl rfl ?_
  simp only [Act.put, pu]
  refine pw_as (by rfl) rfl rfl ?_
  simp only [Act.put, pu]
  refine pw_as (by rfl) rfl rfl ?_
  simp only [Act.put, pu]
  refine pw_nil ?_
  (repeat ((fail_if_success with_reducible refine rg ?_); go_step))
  refine wp_region_pw ?_
  refine pw_mv (by rfl) rfl rfl ?_
  simp only [Act.put, pu]
  refine pw_mv (by rfl) rfl rfl ?_
  simp only [Act.put, pu]
  refine pw_mv (by rfl) rfl rfl ?_
  simp only [Act.put, pu]
  refine pw_callE (by rfl) 9 _ _ rfl Tryz.func9 (by kernel_rfl) #[.pointer v, .string ⟨(V).toArray⟩, .bool B] rfl (hpu _ sb) ?_
  rintro _ z6003 ⟨g, rfl, n', r', hb⟩
  refine ⟨_, rfl, ?_⟩
  simp only [Act.put, pu]
  have b' := Nat.le_trans sb.size n'
  clear n'
  have k := Kept.ofBelow hb
  clear hb
  replace sb := sb.trans (k.below w.heap.size sb.size (by simp <;> omega))
  clear k
  refine pw_mv (by rfl) rfl rfl ?_
  simp only [Act.put, pu]
  refine pw_ext (by rfl) rfl rfl rfl ?_
  simp only [Act.put, pu]
  refine pw_ext (by rfl) rfl rfl rfl ?_
  simp only [Act.put, pu]
  refine pw_as (by rfl) rfl rfl ?_
  simp only [Act.put, pu]
  refine pw_as (by rfl) rfl rfl ?_
  simp only [Act.put, pu]
  refine pw_nil ?_
  (repeat ((fail_if_success with_reducible refine rg ?_); go_step))
  refine wp_region_pw ?_
  refine pw_mv (by rfl) rfl rfl ?_
  simp only [Act.put, pu]
  refine pw_value (by rfl) (.bool false) (exec_neq_k .i64 _ _ _ _ rfl 0 0 rfl rfl false rfl) ?_
  simp only [Act.put, pu]
  refine pw_mv (by rfl) rfl rfl ?_
  simp only [Act.put, pu]
  refine pw_mv (by rfl) rfl rfl ?_
  simp only [Act.put, pu]
  refine pw_mv (by rfl) rfl rfl ?_
  simp only [Act.put, pu]
  refine pw_callB (by rfl) 37 _ _ rfl Tryz.func37 (by kernel_rfl) #[.slice (some ⟨g, 0, none⟩) m m, .slice ab n ca] rfl _ (heq _ sb g r') ?_
  intro z7005 k
  simp only [Act.put, pu]
  replace r' := k.row r' (by simp <;> omega)
  replace sb := sb.trans (k.below w.heap.size sb.size (by simp <;> omega))
  clear k
  refine pw_value (by rfl) (.bool true) (exec_not _ _ rfl false rfl) ?_
  simp only [Act.put, pu]
  refine pw_pick (by rfl) false (v := .bool true) rfl rfl rfl ?_
  simp only [Act.put, pu]
  refine pw_nil ?_
  (repeat ((fail_if_success with_reducible refine rg ?_); go_step))
  refine wp_region_pw ?_
  refine pw_move (by rfl) (.inr rfl) rfl ?_
  simp only [Act.put, pu]
  refine pw_value (by rfl) (.bool false) (fun _ => rfl) ?_
  simp only [Act.put, pu]
  refine pw_value (by rfl) (.int .i64 4) (fun _ => rfl) ?_
  simp only [Act.put, pu]
  refine pw_nil ?_
  go_wp2
  go_ret3
  exact ⟨rfl, sb⟩
set_option maxRecDepth 100000 in
set_option maxHeartbeats 2000000 in
theorem take_same (v : Option Addr) (z n ca : Nat) (ab : Option Addr) (J V : List UInt8) (B : Bool) (w : World) (hz : 0 < z) (hn0 : ¬ n = 0) (hn : ¬ 25 < n) (h : SzAt w v z)
  (hjo : ∀ w', Below w.heap.size w w' → Calls Tryz.prog 36 #[.pointer v, .slice ab n ca] w' fun e w2 => e = .returned (.string ⟨(J).toArray⟩) ∧ Below w'.heap.size w' w2)
  (hto : ∀ w', Calls Tryz.prog 35 #[.string ⟨(J).toArray⟩] w' fun e w2 => e = .returned (.tuple #[.string ⟨(V).toArray⟩, .bool B]) ∧ Below w'.heap.size w' w2) (m : Nat) (CS : Array Value)
  (hpu : ∀ w', Below w.heap.size w w' → Calls Tryz.prog 9 #[.pointer v, .string ⟨(V).toArray⟩, .bool B] w' fun e w2 => ∃ g, e = .returned (.tuple #[.slice (some ⟨g, 0, none⟩) m m, .int .i64 0]) ∧ w'.heap.size ≤ g ∧ Row w2 g CS 26 ∧ Below w'.heap.size w' w2)
  (heq : ∀ w', Below w.heap.size w w' → ∀ g, Row w' g CS 26 → Calls Tryz.prog 37 #[.slice (some ⟨g, 0, none⟩) m m, .slice ab n ca] w' fun e w2 => e = .returned (.bool true) ∧ Below w'.heap.size w' w2) :
  Calls Tryz.prog 14 #[.pointer v, .slice ab n ca] w fun e w' => e = .returned (.tuple #[.string ⟨(V).toArray⟩, .bool B, .int .i64 0]) ∧ Below w.heap.size w w' := by
 go_enter Tryz.func14, Tryz.ntmps14
 have sb := sbmk w
 (repeat ((fail_if_success with_reducible refine rg ?_); go_step))
 refine wp_region_pw ?_
 refine pw_move (by rfl) (.inr rfl) rfl ?_
 simp only [Act.put, pu]
 refine pw_value (by rfl) (.bool false) (fun _ => rfl) ?_
 simp only [Act.put, pu]
 refine pw_value (by rfl) (.int .i64 0) (fun _ => rfl) ?_
 simp only [Act.put, pu]
 refine pw_nil ?_
 (repeat ((fail_if_success with_reducible refine rg ?_); go_step))
 refine wp_region_pw ?_
 refine pw_mv (by rfl) rfl rfl ?_
 simp only [Act.put, pu]
 refine pw_callB (by rfl) 28 _ _ rfl Tryz.func28 (by kernel_rfl) #[.pointer v] rfl _ (isG_any v z true _ (decide_eq_true (by omega)) (h.below sb)) ?_
 intro z1001 k
 simp only [Act.put, pu]
 replace sb := sb.trans (k.below w.heap.size sb.size (by simp <;> omega))
 clear k
 refine pw_value (by rfl) (.bool false) (exec_not _ _ rfl true rfl) ?_
 simp only [Act.put, pu]
 refine pw_nil ?_
 ·skip
  (repeat ((fail_if_success with_reducible refine rg ?_); go_step))
  refine wp_region_pw ?_
  refine pw_mv (by rfl) rfl rfl ?_
  simp only [Act.put, pu]
  refine pw_value (by rfl) (.int .i64 n) (exec_len_s 34 _ rfl ab n ca rfl sl_natsX) ?_
  simp only [Act.put, pu]
  refine pw_value (by rfl) (.bool false) (exec_eql_k .i64 _ _ _ _ rfl n 0 rfl rfl false (decide_eq_false (by omega))) ?_
  simp only [Act.put, pu]
  refine pw_mv (by rfl) rfl rfl ?_
  simp only [Act.put, pu]
  refine pw_mv (by rfl) rfl rfl ?_
  simp only [Act.put, pu]
  refine pw_value (by rfl) (.int .i64 n) (exec_len_s 34 _ rfl ab n ca rfl sl_natsX) ?_
  simp only [Act.put, pu]
  refine pw_value (by rfl) (.bool false) (exec_gt_i _ _ _ _ rfl n 25 rfl rfl false (decide_eq_false (by omega))) ?_
  simp only [Act.put, pu]
  refine pw_pick (by rfl) false (v := .bool false) rfl rfl rfl ?_
  simp only [Act.put, pu]
  refine pw_nil ?_
  (repeat ((fail_if_success with_reducible refine rg ?_); go_step))
  refine wp_region_pw ?_
  refine pw_mv (by rfl) rfl rfl ?_
  simp only [Act.put, pu]
  refine pw_mv (by rfl) rfl rfl ?_
  simp only [Act.put, pu]
  refine pw_callB (by rfl) 36 _ _ rfl Tryz.func36 (by kernel_rfl) #[.pointer v, .slice ab n ca] rfl _ (hjo _ sb) ?_
  intro z5002 k
  simp only [Act.put, pu]
  replace sb := sb.trans (k.below w.heap.size sb.size (by simp <;> omega))
  clear k
  refine pw_callB (by rfl) 35 _ _ rfl Tryz.func35 (by kernel_rfl) #[.string ⟨(J).toArray⟩] rfl _ (hto _) ?_
  intro z5003 k
  simp only [Act.put, pu]
  replace sb := sb.trans (k.below w.heap.size sb.size (by simp <;> omega))
  clear k
  refine pw_mv (by rfl) rfl rfl ?_
  simp only [Act.put, pu]
  refine pw_ext (by rfl) rfl rfl rfl ?_
  simp only [Act.put, pu]
  refine pw_ext (by rfl) rfl rfl rfl ?_
  simp only [Act.put, pu]
  refine pw_as (by rfl) rfl rfl ?_
  simp only [Act.put, pu]
  refine pw_as (by rfl) rfl rfl ?_
  simp only [Act.put, pu]
  refine pw_nil ?_
  (repeat ((fail_if_success with_reducible refine rg ?_); go_step))
  refine wp_region_pw ?_
  refine pw_mv (by rfl) rfl rfl ?_
  simp only [Act.put, pu]
  refine pw_mv (by rfl) rfl rfl ?_
  simp only [Act.put, pu]
  refine pw_mv (by rfl) rfl rfl ?_
  simp only [Act.put, pu]
  refine pw_callE (by rfl) 9 _ _ rfl Tryz.func9 (by kernel_rfl) #[.pointer v, .string ⟨(V).toArray⟩, .bool B] rfl (hpu _ sb) ?_
  rintro _ z6003 ⟨g, rfl, n', r', hb⟩
  refine ⟨_, rfl, ?_⟩
  simp only [Act.put, pu]
  have b' := Nat.le_trans sb.size n'
  clear n'
  have k := Kept.ofBelow hb
  clear hb
  replace sb := sb.trans (k.below w.heap.size sb.size (by simp <;> omega))
  clear k
  refine pw_mv (by rfl) rfl rfl ?_
  simp only [Act.put, pu]
  refine pw_ext (by rfl) rfl rfl rfl ?_
  simp only [Act.put, pu]
  refine pw_ext (by rfl) rfl rfl rfl ?_
  simp only [Act.put, pu]
  refine pw_as (by rfl) rfl rfl ?_
  simp only [Act.put, pu]
  refine pw_as (by rfl) rfl rfl ?_
  simp only [Act.put, pu]
  refine pw_nil ?_
  (repeat ((fail_if_success with_reducible refine rg ?_); go_step))
  refine wp_region_pw ?_
  refine pw_mv (by rfl) rfl rfl ?_
  simp only [Act.put, pu]
  refine pw_value (by rfl) (.bool false) (exec_neq_k .i64 _ _ _ _ rfl 0 0 rfl rfl false rfl) ?_
  simp only [Act.put, pu]
  refine pw_mv (by rfl) rfl rfl ?_
  simp only [Act.put, pu]
  refine pw_mv (by rfl) rfl rfl ?_
  simp only [Act.put, pu]
  refine pw_mv (by rfl) rfl rfl ?_
  simp only [Act.put, pu]
  refine pw_callB (by rfl) 37 _ _ rfl Tryz.func37 (by kernel_rfl) #[.slice (some ⟨g, 0, none⟩) m m, .slice ab n ca] rfl _ (heq _ sb g r') ?_
  intro z7005 k
  simp only [Act.put, pu]
  replace r' := k.row r' (by simp <;> omega)
  replace sb := sb.trans (k.below w.heap.size sb.size (by simp <;> omega))
  clear k
  refine pw_value (by rfl) (.bool false) (exec_not _ _ rfl true rfl) ?_
  simp only [Act.put, pu]
  refine pw_pick (by rfl) false (v := .bool false) rfl rfl rfl ?_
  simp only [Act.put, pu]
  refine pw_nil ?_
  (repeat ((fail_if_success with_reducible refine rg ?_); go_step))
  refine wp_region_pw ?_
  refine pw_mv (by rfl) rfl rfl ?_
  simp only [Act.put, pu]
  refine pw_mv (by rfl) rfl rfl ?_
  simp only [Act.put, pu]
  refine pw_as (by rfl) rfl rfl ?_
  simp only [Act.put, pu]
  refine pw_as (by rfl) rfl rfl ?_
  simp only [Act.put, pu]
  refine pw_value (by rfl) (.int .i64 0) (fun _ => rfl) ?_
  simp only [Act.put, pu]
  refine pw_nil ?_
  go_wp2
  go_ret3
  exact ⟨rfl, sb⟩
theorem ckTake_any (v : Option Addr) (z n ca : Nat) (ab : Option Addr) (f : Nat → Nat) (gb ob : Nat) (bcs : Array Value) (tb : TypeId) (w : World) (hz : 0 < z) (hz2 : z ≤ 32) (h : SzAt w v z) (hna : NatsAt w ab n f gb ob bcs tb) :
  Calls Tryz.prog 14 #[.pointer v, .slice ab n ca] w fun e w' => e = .returned (.tuple #[.string ⟨(tkV z n f).toArray⟩, .bool (tkT z n f), .int .i64 (tkE z n f)]) ∧ Below w.heap.size w w' := by
 by_cases hfew : n = 0 ∨ 25 < n
 ·obtain ⟨e1, e2, e3⟩ := tk_none (tkR_few (f := f) hz hfew)
  rw [e1, e2, e3]
  exact take_few v z n ca ab w hz hfew h
 have hn0 : ¬ n = 0 := fun h => hfew (.inl h)
 have hn : ¬ 25 < n := fun h => hfew (.inr h)
 have hjo := fun w' (hb : Below w.heap.size w w') => joined_any v z n ca ab f gb ob bcs tb w' hz2 (by omega) (h.below hb) (hna.below hb)
 have hjl : 0 < (jn z f n).length := by
  have h1 := jn_length z f n
  have h2 : 1 * 1 ≤ n * z := Nat.mul_le_mul (by omega) hz
  omega
 have hj2 : (jn z f n).length ≤ 100000 := by
  have h1 : ∀ k, k ≤ n → (jn z f k).length ≤ 32 * k := by
   intro k
   induction k with
   | zero => intro _; simp [jn]
   | succ k ih =>
    intro hk
    have := flz_le hz2 (hna.lt k (by omega))
    have := ih (by omega)
    rw [jn, List.length_append]
    omega
  have := h1 n (Nat.le_refl _)
  omega
 have hto := fun w' => told_any (jn z f n) w' hjl hj2
 by_cases h24 : tdT (jn z f n) = true ∧ 24 < (tdV (jn z f n)).length
 ·have hno : tkR z n f = none := tkR_not fun hc => by have := hc.1; omega
  obtain ⟨e1, e2, e3⟩ := tk_none hno
  rw [e1, e2, e3]
  refine take_big v z n ca ab _ _ _ w hz hn0 hn h hjo hto fun w' hb => ?_
  rw [h24.1]
  exact put_big v z _ w' hz h24.2 (h.below hb)
 have hlen : tdT (jn z f n) = true → (tdV (jn z f n)).length ≤ 24 := fun ht => by
  by_cases hl : 24 < (tdV (jn z f n)).length
  ·exact absurd ⟨ht, hl⟩ h24
  ·omega
 have hlen' : (tdV (jn z f n)).length ≤ 24 := by
  cases ht : tdT (jn z f n) with
  | false => rw [tdV_no ht]; decide
  | true => exact hlen ht
 have hpu := fun w' (hb : Below w.heap.size w w') => put_ok v z (tdV (jn z f n)) (tdT (jn z f n)) w' hz hz2 hlen (h.below hb)
 have hlt : ∀ i, i < pN (ckL (tdV (jn z f n)) (tdT (jn z f n))).length z → ckF (ckL (tdV (jn z f n)) (tdT (jn z f n))) z i < 2 ^ 256 := fun i _ => ckF_256 _ _ hz2
 by_cases hc : ckIs z n f (tdV (jn z f n)) (tdT (jn z f n))
 ·have hyes : tkR z n f = some (tdV (jn z f n), tdT (jn z f n)) := by unfold tkR; rw [if_pos hc]
  obtain ⟨e1, e2, e3⟩ := tk_some hyes
  rw [e1, e2, e3]
  refine take_same v z n ca ab _ _ _ w hz hn0 hn h hjo hto _ _ hpu fun w' hb g r => ?_
  obtain ⟨_, hnp, hfe⟩ := hc
  have hr := nats_row r hlt
  rw [← hnp] at hr ⊢
  exact equal_any n n ca _ ab _ f g 0 gb ob _ bcs _ tb w' true ⟨fun _ k hk => (hfe k hk).symm, fun _ => rfl⟩ (by omega) hr (hna.below hb)
 ·obtain ⟨e1, e2, e3⟩ := tk_none (tkR_not hc)
  rw [e1, e2, e3]
  refine take_other v z n ca ab _ _ _ w hz hn0 hn h hjo hto _ _ hpu fun w' hb g r => ?_
  by_cases hnp : pN (ckL (tdV (jn z f n)) (tdT (jn z f n))).length z = n
  ·have hr := nats_row r hlt
   rw [hnp] at hr ⊢
   refine equal_any n n ca _ ab _ f g 0 gb ob _ bcs _ tb w' false ⟨fun e => (by cases e), fun hall => ?_⟩ (by omega) hr (hna.below hb)
   exact absurd ⟨hlen', hnp.symm, fun k hk => (hall k hk).symm⟩ hc
  ·exact equal_len _ n _ ca _ ab w' hnp
end Go.Proofs.YtdemabfpcepnfaaGreatDoor
