/- chunk's functions; slices.Equal of naturals. -/
import Derived.Test.YtdemabfpcepnfaaGreatDoorCkMath
import Derived.Test.YtdemabfpcepnfaaGreatDoorCkShelf
import Derived.Test.YtdemabfpcepnfaaGreatDoorTD
namespace Go.Proofs.YtdemabfpcepnfaaGreatDoor
open Go.RowKit
set_option linter.unusedVariables false
theorem y_cat {P : Program} {o : Oper} {ρ : Operand → Value} (t : TypeId) (x y : Operand) (u : TypeId) (ho : o.op = .binOp .add t x y u) (a b : List UInt8) (hx : ρ x = .string ⟨a.toArray⟩) (hy : ρ y = .string ⟨b.toArray⟩) (h : a.length + b.length ≤ 9223372036854775807) (w : World) :
  (execOp ρ o).run P w = .ok (.value (.string ⟨(a ++ b).toArray⟩)) w := by
 have hr := run_string_add_sum (P := P) w ⟨a.toArray⟩ ⟨b.toArray⟩ (by simpa [ByteArray.size] using h)
 rw [ByteArray.mk_append_mk] at hr
 unfold execOp
 simp only [ho, hx, hy]
 simp [eqGuard, binOp, hr]
theorem y_max {P : Program} {o : Oper} {ρ : Operand → Value} (x y : Operand) (ts : Array TypeId) (ho : o.op = .call { callee := .builtin .max, args := #[x, y], argTypes := ts }) (n m r : Int) (hx : ρ x = .int .i64 n) (hy : ρ y = .int .i64 m) (hr : (if m > n then m else n) = r) (w : World) :
  (execOp ρ o).run P w = .ok (.value (.int .i64 r)) w := by
 subst hr
 unfold execOp
 simp only [ho]
 simp [resolve, invoke, builtin, hx, hy, Builtin.max_, Builtin.max2]
/-- What a group's Size answers. -/
def SzAt (w : World) (v : Option Addr) (z : Int) : Prop := ∀ w', Below w.heap.size w w' → Calls Tryz.prog 52 #[.pointer v] w' fun e w2 => e = .returned (.int .i64 z) ∧ Below w'.heap.size w' w2
theorem SzAt.below {w w' : World} {v : Option Addr} {z : Int} (h : SzAt w v z) (hb : Below w.heap.size w w') : SzAt w' v z := fun w2 h2 => h w2 (below_on hb (Nat.le_refl _) h2)
theorem KnAt.sz {w : World} {v : Option Addr} {P Q G : Nat} {r f : Option Addr} (hQ : Q < 2 ^ 256) (h : KnAt w v P Q G r f) : SzAt w v (sizeZ Q) := fun w' hb => grpSize_any v P Q G r f w' hQ (h.below hb)
theorem made_nats (n : Nat) : madeCells (Value.agg #[.int .u64 0, .int .u64 0, .int .u64 0, .int .u64 0]).cells (n * 4) = nsC n (fun _ => 0) := by
 apply Array.ext_getElem?
 intro i
 by_cases hi : i < n * 4
 ·rw [nsC_get n _ i (by omega)]
  have h0 : lm 0 (i % 4) = 0 := by simp [lm]
  rw [h0]
  unfold madeCells
  have hm : i % 4 = 0 ∨ i % 4 = 1 ∨ i % 4 = 2 ∨ i % 4 = 3 := by omega
  rcases hm with h | h | h | h <;> simp [hi, Value.cells, h]
 ·rw [Array.getElem?_eq_none (by rw [size_madeCells]; omega), Array.getElem?_eq_none (by rw [nsC_size]; omega)]
theorem nats_row {w : World} {g n : Nat} {f : Nat → Nat} (h : Row w g (nsC n f) 26) (hf : ∀ i, i < n → f i < 2 ^ 256) : NatsAt w (some ⟨g, 0, none⟩) n f g 0 (nsC n f) 26 :=
 ⟨.inr ⟨rfl, h.r, fun i hi => nsC_part n f i hi _ (by omega)⟩, hf⟩
theorem info_u8y : (Tryz.prog.info? 5).map (fun i => (i.zero, i.size)) = some (some (.int .u8 0), 1) := by kernel_rfl
theorem info_u8k : ∃ i, Tryz.prog.info? 5 = some i ∧ i.zero = some (Value.int .u8 0) ∧ i.size = 1 := by
 cases hi : Tryz.prog.info? 5 with
 | none => have := info_u8y; rw [hi] at this; cases this
 | some i =>
  have h := info_u8y
  rw [hi] at h
  simp only [Option.map_some, Option.some.injEq, Prod.mk.injEq] at h
  exact ⟨i, rfl, h.1, h.2⟩
theorem lit_b1 (a : Int) (k : Nat) (hk : k = 1) : Instr.fill (fun i => some (i * k, k)) ((Array.range (1 * k)).map ((Value.int .u8 0).cells[· % (Value.int .u8 0).cells.size]!)) [(0, .int .u8 a)] = some #[.int .u8 a] := by
 subst hk
 kernel_rfl
theorem cell_b1 (x : Nat) (h : x < 256) : ∀ j, j < [UInt8.ofNat x].length → (#[.int .u8 (x : Int)] : Array Value)[0 + j]? = some (.int .u8 (yb [UInt8.ofNat x] j : Nat)) := by
 intro j hj
 obtain rfl : j = 0 := by simpa using hj
 have : yb [UInt8.ofNat x] 0 = x := by
  unfold yb
  simp [UInt8.toNat_ofNat']
  omega
 rw [this]
 rfl
theorem wr8k (x : Nat) (h : x < 256) : IntKind.u8.wrap (x : Int) = (x : Int) := by rw [IntKind.wrap_u8']; omega
theorem parts_wrap {n z : Nat} (hz : 0 < z) (hb : n < 100000) : IntKind.i64.wrap (((n + z - 1 : Nat) : Int).tdiv (z : Int)) = ((pN n z : Nat) : Int) := by
 have e : ((n + z - 1 : Nat) : Int).tdiv (z : Int) = ((pN n z : Nat) : Int) := by rw [← Int.ofNat_tdiv]; rfl
 have := pN_le (n := n) hz
 rw [e, IntKind.wrap_i64]
 omega
theorem zero_buk (w : World) : (zeroValue 98).run Tryz.prog w = .ok (.agg #[.pointer none, .slice none 0 0]) w := Tryz.zeroValue98 w
set_option maxRecDepth 100000 in
set_option maxHeartbeats 2000000 in
theorem isG_any (v : Option Addr) (z : Int) (B : Bool) (w : World) (hB : decide (0 < z) = B) (h : SzAt w v z) :
  Calls Tryz.prog 28 #[.pointer v] w fun e w' => e = .returned (.bool B) ∧ Below w.heap.size w w' := by
 go_enter Tryz.func28, Tryz.ntmps28
 have sb := sbmk w
 (repeat ((fail_if_success with_reducible refine rg ?_); go_step))
 refine wp_region_pw ?_
 refine pw_value (by rfl) (.bool false) (fun _ => rfl) ?_
 simp only [Act.put, pu]
 refine pw_nil ?_
 (repeat ((fail_if_success with_reducible refine rg ?_); go_step))
 refine wp_region_pw ?_
 refine pw_mv (by rfl) rfl rfl ?_
 simp only [Act.put, pu]
 refine pw_callB (by rfl) 52 _ _ rfl Tryz.func52 (by kernel_rfl) #[.pointer v] rfl _ (h _ sb) ?_
 intro z1001 k
 simp only [Act.put, pu]
 replace sb := sb.trans (k.below w.heap.size sb.size (by simp <;> omega))
 clear k
 refine pw_value (by rfl) (.bool B) (exec_gt_i _ _ _ _ rfl z 0 rfl rfl B hB) ?_
 simp only [Act.put, pu]
 refine pw_as (by rfl) rfl rfl ?_
 simp only [Act.put, pu]
 refine pw_nil ?_
 go_wp2
 go_ret
 exact ⟨rfl, sb⟩
set_option maxRecDepth 100000 in
set_option maxHeartbeats 2000000 in
theorem parts_any (v : Option Addr) (n z : Nat) (w : World) (hz : 0 < z) (hb : n + z < 100000) (h : SzAt w v z) :
  Calls Tryz.prog 34 #[.pointer v, .int .i64 n] w fun e w' => e = .returned (.int .i64 (pN n z : Nat)) ∧ Below w.heap.size w w' := by
 have hw := parts_wrap (n := n) hz (by omega)
 generalize pN n z = X at *
 go_enter Tryz.func34, Tryz.ntmps34
 have sb := sbmk w
 (repeat ((fail_if_success with_reducible refine rg ?_); go_step))
 refine wp_region_pw ?_
 refine pw_value (by rfl) (.int .i64 0) (fun _ => rfl) ?_
 simp only [Act.put, pu]
 refine pw_nil ?_
 (repeat ((fail_if_success with_reducible refine rg ?_); go_step))
 refine wp_region_pw ?_
 refine pw_mv (by rfl) rfl rfl ?_
 simp only [Act.put, pu]
 refine pw_mv (by rfl) rfl rfl ?_
 simp only [Act.put, pu]
 refine pw_callB (by rfl) 52 _ _ rfl Tryz.func52 (by kernel_rfl) #[.pointer v] rfl _ (h _ sb) ?_
 intro z1002 k
 simp only [Act.put, pu]
 replace sb := sb.trans (k.below w.heap.size sb.size (by simp <;> omega))
 clear k
 refine pw_value (by rfl) (.int .i64 ((n + z : Nat) : Int)) (exec_add_in _ _ _ _ rfl n z rfl rfl (by omega)) ?_
 simp only [Act.put, pu]
 refine pw_value (by rfl) (.int .i64 ((n + z - 1 : Nat) : Int)) (exec_sub_in _ _ _ _ rfl (n + z) 1 rfl rfl (by omega) (by omega)) ?_
 simp only [Act.put, pu]
 refine pw_mv (by rfl) rfl rfl ?_
 simp only [Act.put, pu]
 refine pw_callB (by rfl) 52 _ _ rfl Tryz.func52 (by kernel_rfl) #[.pointer v] rfl _ (h _ sb) ?_
 intro z1006 k
 simp only [Act.put, pu]
 replace sb := sb.trans (k.below w.heap.size sb.size (by simp <;> omega))
 clear k
 refine pw_value (by rfl) (.int .i64 (X : Nat)) (y_quoI _ _ _ _ rfl ((n + z - 1 : Nat) : Int) z _ rfl rfl (by omega) hw) ?_
 simp only [Act.put, pu]
 refine pw_as (by rfl) rfl rfl ?_
 simp only [Act.put, pu]
 refine pw_nil ?_
 go_wp2
 go_ret
 exact ⟨rfl, sb⟩
set_option maxRecDepth 100000 in
set_option maxHeartbeats 2000000 in
theorem numbers_any (v : Option Addr) (z : Nat) (s : List UInt8) (w : World) (hz : 0 < z) (hz2 : z ≤ 32) (hs : s.length ≤ 1000) (h : SzAt w v z) :
  Calls Tryz.prog 29 #[.pointer v, .string ⟨(s).toArray⟩] w fun e w' => ∃ g, e = .returned (.slice (some ⟨g, 0, none⟩) (pN s.length z) (pN s.length z)) ∧ w.heap.size ≤ g ∧ Row w' g (nsC (pN s.length z) (ckF s z)) 26 ∧ Below w.heap.size w w' := by
 have hpa := fun w' (hb : Below w.heap.size w w') => parts_any v s.length z w' hz (by omega) (h.below hb)
 have htk : ∀ (l : List UInt8) w', l.length ≤ 32 → Calls Tryz.prog 54 #[.string ⟨(trimL l).toArray⟩] w' fun e w2 => e = .returned (.tuple #[.agg (natC (natB l)), .int .i64 0]) ∧ Below w'.heap.size w' w2 := by
  intro l w' hl
  have h := ntake_any ⟨(trimL l).toArray⟩ w'
  rw [(take_trim l hl).1, (take_trim l hl).2] at h
  exact h
 have h1 := pN_ge (n := s.length) hz
 have h2 := pN_le (n := s.length) hz
 have h3 := pN_lt (n := s.length) hz
 have hpl := padz_length (s := s) hz
 have hpd : padz s z = s ++ List.replicate (pN s.length z * z - s.length) 0 := rfl
 have hprt := fun k => prt_le s z k
 have hmul := fun k (hk : k < pN s.length z) => Nat.mul_le_mul_right z hk
 obtain ⟨ie, hie, hze, hsz, hby⟩ := info_nat'
 generalize pN s.length z = n at *
 obtain ⟨M, hM⟩ : ∃ M, n * z = M := ⟨_, rfl⟩
 rw [hM] at h1 h3 hpl hpd
 have HM : Hid (∀ k, k < n → (k + 1) * z ≤ M) := fun k hk => by
  have := hmul k hk
  rw [hM] at this
  exact this
 clear hmul
 go_enter Tryz.func29, Tryz.ntmps29
 have sb := sbmk w
 (repeat ((fail_if_success with_reducible refine rg ?_); go_step))
 refine wp_region_pw ?_
 refine pw_value (by rfl) (.slice none 0 0) ((fun _ => rfl)) ?_
 simp only [Act.put, pu]
 refine pw_nil ?_
 (repeat ((fail_if_success with_reducible refine rg ?_); go_step))
 refine wp_region_pw ?_
 refine pw_mv (by rfl) rfl rfl ?_
 simp only [Act.put, pu]
 refine pw_callB (by rfl) 52 _ _ rfl Tryz.func52 (by kernel_rfl) #[.pointer v] rfl _ (h _ sb) ?_
 intro z1001 k
 simp only [Act.put, pu]
 replace sb := sb.trans (k.below w.heap.size sb.size (by simp <;> omega))
 clear k
 refine pw_as (by rfl) rfl rfl ?_
 simp only [Act.put, pu]
 refine pw_nil ?_
 (repeat ((fail_if_success with_reducible refine rg ?_); go_step))
 refine wp_region_pw ?_
 refine pw_mv (by rfl) rfl rfl ?_
 simp only [Act.put, pu]
 refine pw_mv (by rfl) rfl rfl ?_
 simp only [Act.put, pu]
 refine pw_value (by rfl) (.int .i64 s.length) (y_lenS _ _ rfl s rfl Tryz.underlying9) ?_
 simp only [Act.put, pu]
 refine pw_callB (by rfl) 34 _ _ rfl Tryz.func34 (by kernel_rfl) #[.pointer v, .int .i64 (s.length : Nat)] rfl _ (hpa _ sb) ?_
 intro z2003 k
 simp only [Act.put, pu]
 replace sb := sb.trans (k.below w.heap.size sb.size (by simp <;> omega))
 clear k
 refine pw_make (by rfl) 34 26 _ _ rfl ie _ Tryz.underlying34 hie hze n rfl rfl (by rw [hsz]; omega) (by rw [hby]; omega) (by omega) ?_
 intro gM z2004 n0 rM k
 simp only [Act.put, pu]
 have bM := Nat.le_trans sb.size n0
 clear n0
 replace sb := sb.trans (k.below w.heap.size sb.size (by simp <;> omega))
 clear k
 refine pw_as (by rfl) rfl rfl ?_
 simp only [Act.put, pu]
 refine pw_nil ?_
 rw [hsz, made_nats] at rM
 clear hpa h
 (repeat ((fail_if_success with_reducible refine rg ?_); go_step))
 refine wp_region_pw ?_
 refine pw_mv (by rfl) rfl rfl ?_
 simp only [Act.put, pu]
 refine pw_mv (by rfl) rfl rfl ?_
 simp only [Act.put, pu]
 refine pw_value (by rfl) (.int .i64 n) (exec_len_s 34 _ rfl (some ⟨gM, 0, none⟩) n n rfl sl_natsX) ?_
 simp only [Act.put, pu]
 refine pw_mv (by rfl) rfl rfl ?_
 simp only [Act.put, pu]
 refine pw_value (by rfl) (.int .i64 (M : Nat)) (exec_mul_in _ _ _ _ rfl n z M rfl rfl hM (by omega)) ?_
 simp only [Act.put, pu]
 refine pw_mv (by rfl) rfl rfl ?_
 simp only [Act.put, pu]
 refine pw_value (by rfl) (.int .i64 s.length) (y_lenS _ _ rfl s rfl Tryz.underlying9) ?_
 simp only [Act.put, pu]
 refine pw_value (by rfl) (.int .i64 ((M - s.length : Nat) : Int)) (exec_sub_in _ _ _ _ rfl M s.length rfl rfl (by omega) (by omega)) ?_
 simp only [Act.put, pu]
 refine pw_callB (by rfl) 53 _ _ rfl Tryz.func53 (by kernel_rfl) #[.string { data := #[0] }, .int .i64 ((M - s.length : Nat) : Int)] rfl _ (repeat_any _ _ (by omega)) ?_
 intro z3008 k
 simp only [Act.put, pu]
 replace rM := k.row rM (by simp <;> omega)
 replace sb := sb.trans (k.below w.heap.size sb.size (by simp <;> omega))
 clear k
 refine pw_value (by rfl) (.string ⟨(padz s z).toArray⟩) (fun w' => (y_cat _ _ _ _ rfl s (List.replicate (M - s.length) 0) rfl rfl (by rw [List.length_replicate]; omega) w').trans (by rw [← hpd])) ?_
 simp only [Act.put, pu]
 refine pw_as (by rfl) rfl rfl ?_
 simp only [Act.put, pu]
 refine pw_nil ?_
 have hMb : M ≤ 1100 := by omega
 clear hpd h1 h3
 (repeat ((fail_if_success with_reducible refine rg ?_); go_step))
 refine wp_region_pw ?_
 refine pw_mv (by rfl) rfl rfl ?_
 simp only [Act.put, pu]
 refine pw_value (by rfl) (.int .i64 n) (exec_len_s 34 _ rfl (some ⟨gM, 0, none⟩) n n rfl sl_natsX) ?_
 simp only [Act.put, pu]
 refine pw_value (by rfl) (.int .i64 0) (fun _ => rfl) ?_
 simp only [Act.put, pu]
 refine pw_nil ?_
 go_wp2_with fail
 go_loopg [8, 9, 29] n (fun g s8 s9 s29 wr => ∃ k : Nat, k + g = n ∧ s29 = .int .i64 k ∧ Row wr gM (nsC n (fun j => if j < k then ckF s z j else 0)) 26 ∧ Below w.heap.size w wr)
 case atStart => exact ⟨0, by omega, rfl, by rw [show (fun j => if j < 0 then ckF s z j else 0) = fun _ => 0 from funext fun j => if_neg (by omega)]; exact rM, sb⟩
 case round =>
  clear rM sb
  obtain ⟨k, hk, rfl, rM, sb⟩ := hrel
  cases gk with
  | zero =>
   obtain rfl : k = n := by omega
   clear hk HM htk
   rw [nsC_congr k _ (ckF s z) (fun j hj => if_pos hj)] at rM
   (repeat ((fail_if_success with_reducible refine rg ?_); go_step))
   refine wp_region_pw ?_
   refine pw_value (by rfl) (.bool false) (exec_lt_b _ _ _ _ rfl k k rfl rfl false (decide_eq_false (Int.lt_irrefl _))) ?_
   simp only [Act.put, pu]
   refine pw_nil ?_
   (repeat ((fail_if_success with_reducible refine rg ?_); go_step))
   refine wp_region_pw ?_
   refine pw_mv (by rfl) rfl rfl ?_
   simp only [Act.put, pu]
   refine pw_as (by rfl) rfl rfl ?_
   simp only [Act.put, pu]
   refine pw_nil ?_
   go_wp2
   go_ret
   exact ⟨gM, rfl, bM, rM, sb⟩
  | succ g =>
   have hlt : k < n := by omega
   have hkM := HM.out k hlt
   have hadd : (k + 1) * z = k * z + z := by rw [Nat.add_mul, Nat.one_mul]
   obtain ⟨A, hA⟩ : ∃ A, k * z = A := ⟨_, rfl⟩
   rw [hadd, hA] at hkM
   have hA2 : (k + 1) * z = A + z := by rw [hadd, hA]
   have hpr : ((padz s z).take (A + z)).drop A = prt s z k := by
    rw [take_mid]
    unfold prt
    rw [hA]
   have htk' := fun w' => htk (prt s z k) w' (Nat.le_trans (hprt k) hz2)
   have hput := nsC_put n (fun j => if j < k then ckF s z j else 0) (fun j => if j < k + 1 then ckF s z j else 0) k hlt (0 + k * 4) (by omega) (natB (prt s z k)) (fun j hj => by
    by_cases hjk : j = k
    ·subst hjk
     rw [if_pos (by omega), if_pos rfl]
     rfl
    ·rw [if_neg hjk]
     by_cases h2 : j < k
     ·rw [if_pos h2, if_pos (by omega)]
     ·rw [if_neg h2, if_neg (by omega)])
   clear htk hadd
   (repeat ((fail_if_success with_reducible refine rg ?_); go_step))
   refine wp_region_pw ?_
   refine pw_value (by rfl) (.bool true) (exec_lt_b _ _ _ _ rfl k n rfl rfl true (decide_eq_true (by omega))) ?_
   simp only [Act.put, pu]
   refine pw_nil ?_
   (repeat ((fail_if_success with_reducible refine rg ?_); go_step))
   refine wp_region_pw ?_
   refine pw_mv (by rfl) rfl rfl ?_
   simp only [Act.put, pu]
   refine pw_as (by rfl) rfl rfl ?_
   simp only [Act.put, pu]
   refine pw_nil ?_
   (repeat ((fail_if_success with_reducible refine rg ?_); go_step))
   refine wp_region_pw ?_
   refine pw_mv (by rfl) rfl rfl ?_
   simp only [Act.put, pu]
   refine pw_mv (by rfl) rfl rfl ?_
   simp only [Act.put, pu]
   refine pw_mv (by rfl) rfl rfl ?_
   simp only [Act.put, pu]
   refine pw_value (by rfl) (.int .i64 (A : Nat)) (exec_mul_in _ _ _ _ rfl k z A rfl rfl hA (by omega)) ?_
   simp only [Act.put, pu]
   refine pw_mv (by rfl) rfl rfl ?_
   simp only [Act.put, pu]
   refine pw_value (by rfl) (.int .i64 ((k + 1 : Nat) : Int)) (exec_add_in _ _ _ _ rfl k 1 rfl rfl (by omega)) ?_
   simp only [Act.put, pu]
   refine pw_mv (by rfl) rfl rfl ?_
   simp only [Act.put, pu]
   refine pw_value (by rfl) (.int .i64 ((A + z : Nat) : Int)) (exec_mul_in _ _ _ _ rfl (k + 1) z (A + z) rfl rfl hA2 (by omega)) ?_
   simp only [Act.put, pu]
   refine pw_value (by rfl) (.string ⟨(prt s z k).toArray⟩) (y_mid _ _ _ _ Tryz.underlying9 rfl (padz s z) A (A + z) rfl rfl rfl (by omega) (by omega) _ hpr) ?_
   simp only [Act.put, pu]
   refine pw_as (by rfl) rfl rfl ?_
   simp only [Act.put, pu]
   refine pw_nil ?_
   clear hpr hA hA2
   (repeat ((fail_if_success with_reducible refine rg ?_); go_step))
   refine wp_region_pw ?_
   refine pw_mv (by rfl) rfl rfl ?_
   simp only [Act.put, pu]
   refine pw_mv (by rfl) rfl rfl ?_
   simp only [Act.put, pu]
   refine pw_mv (by rfl) rfl rfl ?_
   simp only [Act.put, pu]
   refine pw_callB (by rfl) 55 _ _ rfl Tryz.func55 (by kernel_rfl) #[.string ⟨(prt s z k).toArray⟩, .string { data := #[0] }] rfl _ (trimLeft_any _ _) ?_
   intro z8003 k
   simp only [Act.put, pu]
   replace rM := k.row rM (by simp <;> omega)
   replace sb := sb.trans (k.below w.heap.size sb.size (by simp <;> omega))
   clear k
   refine pw_callB (by rfl) 54 _ _ rfl Tryz.func54 (by kernel_rfl) #[.string ⟨(trimL (prt s z k)).toArray⟩] rfl _ (htk' _) ?_
   intro z8004 k
   simp only [Act.put, pu]
   replace rM := k.row rM (by simp <;> omega)
   replace sb := sb.trans (k.below w.heap.size sb.size (by simp <;> omega))
   clear k
   refine pw_mv (by rfl) rfl rfl ?_
   simp only [Act.put, pu]
   refine pw_ext (by rfl) rfl rfl rfl ?_
   simp only [Act.put, pu]
   refine pw_ext (by rfl) rfl rfl rfl ?_
   simp only [Act.put, pu]
   refine pw_value (by rfl) (.pointer (some ⟨gM, 0 + k * 4, none⟩)) (exec_index_s 34 _ _ rfl gM 0 n n rfl k rfl hlt _ Tryz.underlying34 4 size_nat4) ?_
   simp only [Act.put, pu]
   refine pw_putm (by rfl) 26 _ _ rfl _ (0 + k * 4) rfl rM (natC (natB (prt s z k))) rfl (by exact size_nat) (by rw [nsC_size, natC_size]; omega) (natC_one _) (nsC n (fun j => if j < k + 1 then ckF s z j else 0)) hput ?_
   clear rM
   intro z8009 rM k
   simp only [Act.put]
   replace sb := sb.trans (k.below w.heap.size sb.size (by simp <;> omega))
   clear k
   refine pw_nil ?_
   clear hput
   (repeat ((fail_if_success with_reducible refine rg ?_); go_step))
   refine wp_region_pw ?_
   refine pw_value (by rfl) (.int .i64 ((k + 1 : Nat) : Int)) (exec_add_in _ _ _ _ rfl k 1 rfl rfl (by omega)) ?_
   simp only [Act.put, pu]
   refine pw_mv (by rfl) rfl rfl ?_
   simp only [Act.put, pu]
   refine pw_nil ?_
   go_wp2
   go_roundg g
   case measure => omega
   case rel => exact ⟨k + 1, by omega, rfl, rM, sb⟩
set_option maxRecDepth 100000 in
set_option maxHeartbeats 2000000 in
theorem put_nog (v : Option Addr) (s : List UInt8) (b : Bool) (w : World) (h : SzAt w v 0) :
  Calls Tryz.prog 9 #[.pointer v, .string ⟨(s).toArray⟩, .bool b] w fun e w' => e = .returned (.tuple #[.slice none 0 0, .int .i64 1]) ∧ Below w.heap.size w w' := by
 go_enter Tryz.func9, Tryz.ntmps9
 have sb := sbmk w
 (repeat ((fail_if_success with_reducible refine rg ?_); go_step))
 refine wp_region_pw ?_
 refine pw_value (by rfl) (.slice none 0 0) ((fun _ => rfl)) ?_
 simp only [Act.put, pu]
 refine pw_value (by rfl) (.int .i64 0) (fun _ => rfl) ?_
 simp only [Act.put, pu]
 refine pw_nil ?_
 (repeat ((fail_if_success with_reducible refine rg ?_); go_step))
 refine wp_region_pw ?_
 refine pw_mv (by rfl) rfl rfl ?_
 simp only [Act.put, pu]
 refine pw_callB (by rfl) 28 _ _ rfl Tryz.func28 (by kernel_rfl) #[.pointer v] rfl _ (isG_any v 0 false _ rfl (h.below sb)) ?_
 intro z1001 k
 simp only [Act.put, pu]
 replace sb := sb.trans (k.below w.heap.size sb.size (by simp <;> omega))
 clear k
 refine pw_value (by rfl) (.bool true) (exec_not _ _ rfl false rfl) ?_
 simp only [Act.put, pu]
 refine pw_nil ?_
 (repeat ((fail_if_success with_reducible refine rg ?_); go_step))
 refine wp_region_pw ?_
 refine pw_value (by rfl) (.slice none 0 0) ((fun _ => rfl)) ?_
 simp only [Act.put, pu]
 refine pw_value (by rfl) (.int .i64 1) (fun _ => rfl) ?_
 simp only [Act.put, pu]
 refine pw_nil ?_
 go_wp2
 go_ret2
 exact ⟨rfl, sb⟩
set_option maxRecDepth 100000 in
set_option maxHeartbeats 2000000 in
theorem put_none (v : Option Addr) (z : Nat) (s : List UInt8) (w : World) (hz : 0 < z) (hz2 : z ≤ 32) (h : SzAt w v z) :
  Calls Tryz.prog 9 #[.pointer v, .string ⟨(s).toArray⟩, .bool false] w fun e w' => ∃ g, e = .returned (.tuple #[.slice (some ⟨g, 0, none⟩) (pN (ckL s false).length z) (pN (ckL s false).length z), .int .i64 0]) ∧ w.heap.size ≤ g ∧ Row w' g (nsC (pN (ckL s false).length z) (ckF (ckL s false) z)) 26 ∧ Below w.heap.size w w' := by
 have hnu := fun w' (hb : Below w.heap.size w w') => numbers_any v z [0] w' hz hz2 (by decide) (h.below hb)
 go_enter Tryz.func9, Tryz.ntmps9
 have sb := sbmk w
 (repeat ((fail_if_success with_reducible refine rg ?_); go_step))
 refine wp_region_pw ?_
 refine pw_value (by rfl) (.slice none 0 0) ((fun _ => rfl)) ?_
 simp only [Act.put, pu]
 refine pw_value (by rfl) (.int .i64 0) (fun _ => rfl) ?_
 simp only [Act.put, pu]
 refine pw_nil ?_
 (repeat ((fail_if_success with_reducible refine rg ?_); go_step))
 refine wp_region_pw ?_
 refine pw_mv (by rfl) rfl rfl ?_
 simp only [Act.put, pu]
 refine pw_callB (by rfl) 28 _ _ rfl Tryz.func28 (by kernel_rfl) #[.pointer v] rfl _ (isG_any v z true _ (decide_eq_true (by omega)) (h.below sb)) ?_
 intro z1001 k
 simp only [Act.put, pu]
 replace sb := sb.trans (k.below w.heap.size sb.size (by simp <;> omega))
 clear k
 refine pw_value (by rfl) (.bool false) (exec_not _ _ rfl true rfl) ?_
 simp only [Act.put, pu]
 refine pw_nil ?_
 (repeat ((fail_if_success with_reducible refine rg ?_); go_step))
 refine wp_region_pw ?_
 refine pw_mv (by rfl) rfl rfl ?_
 simp only [Act.put, pu]
 refine pw_value (by rfl) (.bool true) (exec_not _ _ rfl false rfl) ?_
 simp only [Act.put, pu]
 refine pw_nil ?_
 (repeat ((fail_if_success with_reducible refine rg ?_); go_step))
 refine wp_region_pw ?_
 refine pw_mv (by rfl) rfl rfl ?_
 simp only [Act.put, pu]
 refine pw_callE (by rfl) 29 _ _ rfl Tryz.func29 (by kernel_rfl) #[.pointer v, .string { data := #[0] }] rfl (hnu _ sb) ?_
 rintro _ z4001 ⟨g, rfl, n', r', hb⟩
 refine ⟨_, rfl, ?_⟩
 simp only [Act.put, pu]
 have b' := Nat.le_trans sb.size n'
 clear n'
 have k := Kept.ofBelow hb
 clear hb
 replace sb := sb.trans (k.below w.heap.size sb.size (by simp <;> omega))
 clear k
 refine pw_as (by rfl) rfl rfl ?_
 simp only [Act.put, pu]
 refine pw_value (by rfl) (.int .i64 0) (fun _ => rfl) ?_
 simp only [Act.put, pu]
 refine pw_nil ?_
 go_wp2
 go_ret2
 exact ⟨g, rfl, b', r', sb⟩
set_option maxRecDepth 100000 in
set_option maxHeartbeats 2000000 in
theorem put_big (v : Option Addr) (z : Nat) (s : List UInt8) (w : World) (hz : 0 < z) (hs : 24 < s.length) (h : SzAt w v z) :
  Calls Tryz.prog 9 #[.pointer v, .string ⟨(s).toArray⟩, .bool true] w fun e w' => e = .returned (.tuple #[.slice none 0 0, .int .i64 6]) ∧ Below w.heap.size w w' := by
 go_enter Tryz.func9, Tryz.ntmps9
 have sb := sbmk w
 (repeat ((fail_if_success with_reducible refine rg ?_); go_step))
 refine wp_region_pw ?_
 refine pw_value (by rfl) (.slice none 0 0) ((fun _ => rfl)) ?_
 simp only [Act.put, pu]
 refine pw_value (by rfl) (.int .i64 0) (fun _ => rfl) ?_
 simp only [Act.put, pu]
 refine pw_nil ?_
 (repeat ((fail_if_success with_reducible refine rg ?_); go_step))
 refine wp_region_pw ?_
 refine pw_mv (by rfl) rfl rfl ?_
 simp only [Act.put, pu]
 refine pw_callB (by rfl) 28 _ _ rfl Tryz.func28 (by kernel_rfl) #[.pointer v] rfl _ (isG_any v z true _ (decide_eq_true (by omega)) (h.below sb)) ?_
 intro z1001 k
 simp only [Act.put, pu]
 replace sb := sb.trans (k.below w.heap.size sb.size (by simp <;> omega))
 clear k
 refine pw_value (by rfl) (.bool false) (exec_not _ _ rfl true rfl) ?_
 simp only [Act.put, pu]
 refine pw_nil ?_
 (repeat ((fail_if_success with_reducible refine rg ?_); go_step))
 refine wp_region_pw ?_
 refine pw_mv (by rfl) rfl rfl ?_
 simp only [Act.put, pu]
 refine pw_value (by rfl) (.bool false) (exec_not _ _ rfl true rfl) ?_
 simp only [Act.put, pu]
 refine pw_nil ?_
 (repeat ((fail_if_success with_reducible refine rg ?_); go_step))
 refine wp_region_pw ?_
 refine pw_mv (by rfl) rfl rfl ?_
 simp only [Act.put, pu]
 refine pw_value (by rfl) (.int .i64 s.length) (y_lenS _ _ rfl s rfl Tryz.underlying9) ?_
 simp only [Act.put, pu]
 refine pw_value (by rfl) (.bool true) (exec_gt_i _ _ _ _ rfl s.length 24 rfl rfl true (decide_eq_true (by omega))) ?_
 simp only [Act.put, pu]
 refine pw_nil ?_
 (repeat ((fail_if_success with_reducible refine rg ?_); go_step))
 refine wp_region_pw ?_
 refine pw_value (by rfl) (.slice none 0 0) ((fun _ => rfl)) ?_
 simp only [Act.put, pu]
 refine pw_value (by rfl) (.int .i64 6) (fun _ => rfl) ?_
 simp only [Act.put, pu]
 refine pw_nil ?_
 go_wp2
 go_ret2
 exact ⟨rfl, sb⟩
set_option maxRecDepth 100000 in
set_option maxHeartbeats 2000000 in
theorem put_some (v : Option Addr) (z : Nat) (s : List UInt8) (w : World) (hz : 0 < z) (hz2 : z ≤ 32) (hs : s.length ≤ 24) (h : SzAt w v z) :
  Calls Tryz.prog 9 #[.pointer v, .string ⟨(s).toArray⟩, .bool true] w fun e w' => ∃ g, e = .returned (.tuple #[.slice (some ⟨g, 0, none⟩) (pN (ckL s true).length z) (pN (ckL s true).length z), .int .i64 0]) ∧ w.heap.size ≤ g ∧ Row w' g (nsC (pN (ckL s true).length z) (ckF (ckL s true) z)) 26 ∧ Below w.heap.size w w' := by
 have hnu := fun w' (hb : Below w.heap.size w w') => numbers_any v z (ckL s true) w' hz hz2 (by have := ckL_len (v := s) true hs; omega) (h.below hb)
 obtain ⟨ie, hie, hze, hsz⟩ := info_u8k
 have hs1 : ¬ 1 * ie.size > 2 ^ 24 := by rw [hsz]; decide
 have hs2 : ¬ 1 * ie.size = 0 := by rw [hsz]; decide
 have hckL : [UInt8.ofNat (1 + s.length)] ++ s = ckL s true := by rw [Nat.add_comm]; rfl
 go_enter Tryz.func9, Tryz.ntmps9
 have sb := sbmk w
 (repeat ((fail_if_success with_reducible refine rg ?_); go_step))
 refine wp_region_pw ?_
 refine pw_value (by rfl) (.slice none 0 0) ((fun _ => rfl)) ?_
 simp only [Act.put, pu]
 refine pw_value (by rfl) (.int .i64 0) (fun _ => rfl) ?_
 simp only [Act.put, pu]
 refine pw_nil ?_
 (repeat ((fail_if_success with_reducible refine rg ?_); go_step))
 refine wp_region_pw ?_
 refine pw_mv (by rfl) rfl rfl ?_
 simp only [Act.put, pu]
 refine pw_callB (by rfl) 28 _ _ rfl Tryz.func28 (by kernel_rfl) #[.pointer v] rfl _ (isG_any v z true _ (decide_eq_true (by omega)) (h.below sb)) ?_
 intro z1001 k
 simp only [Act.put, pu]
 replace sb := sb.trans (k.below w.heap.size sb.size (by simp <;> omega))
 clear k
 refine pw_value (by rfl) (.bool false) (exec_not _ _ rfl true rfl) ?_
 simp only [Act.put, pu]
 refine pw_nil ?_
 (repeat ((fail_if_success with_reducible refine rg ?_); go_step))
 refine wp_region_pw ?_
 refine pw_mv (by rfl) rfl rfl ?_
 simp only [Act.put, pu]
 refine pw_value (by rfl) (.bool false) (exec_not _ _ rfl true rfl) ?_
 simp only [Act.put, pu]
 refine pw_nil ?_
 (repeat ((fail_if_success with_reducible refine rg ?_); go_step))
 refine wp_region_pw ?_
 refine pw_mv (by rfl) rfl rfl ?_
 simp only [Act.put, pu]
 refine pw_value (by rfl) (.int .i64 s.length) (y_lenS _ _ rfl s rfl Tryz.underlying9) ?_
 simp only [Act.put, pu]
 refine pw_value (by rfl) (.bool false) (exec_gt_i _ _ _ _ rfl s.length 24 rfl rfl false (decide_eq_false (by omega))) ?_
 simp only [Act.put, pu]
 refine pw_nil ?_
 (repeat ((fail_if_success with_reducible refine rg ?_); go_step))
 refine wp_region_pw ?_
 refine pw_mv (by rfl) rfl rfl ?_
 simp only [Act.put, pu]
 refine pw_mv (by rfl) rfl rfl ?_
 simp only [Act.put, pu]
 refine pw_value (by rfl) (.int .i64 s.length) (y_lenS _ _ rfl s rfl Tryz.underlying9) ?_
 simp only [Act.put, pu]
 refine pw_value (by rfl) (.int .i64 ((1 + s.length : Nat) : Int)) (exec_add_in _ _ _ _ rfl 1 s.length rfl rfl (by omega)) ?_
 simp only [Act.put, pu]
 refine pw_value (by rfl) (.int .u8 ((1 + s.length : Nat) : Int)) (y_conv _ _ _ rfl .i64 .u8 Tryz.underlying3 Tryz.underlying5 ((1 + s.length : Nat) : Int) _ rfl (wr8k _ (by omega))) ?_
 simp only [Act.put, pu]
 refine pw_litr (by rfl) 64 5 1 _ rfl #[.int .u8 ((1 + s.length : Nat) : Int)] ie _ Tryz.underlying64 hie hze hs1 hs2 [(0, .int .u8 ((1 + s.length : Nat) : Int))] rfl (lit_b1 _ _ hsz) ?_
 intro gB z7005 n0 rB k
 simp only [Act.put, pu]
 have bB := Nat.le_trans sb.size n0
 clear n0
 replace sb := sb.trans (k.below w.heap.size sb.size (by simp <;> omega))
 clear k
 refine pw_run (by rfl) (.string ⟨([UInt8.ofNat (1 + s.length)]).toArray⟩) _ (y_str _ rfl gB 0 1 1 [UInt8.ofNat (1 + s.length)] rfl rfl _ rB.r (cell_b1 _ (by omega))) ?_
 simp only [Act.put, pu]
 refine pw_mv (by rfl) rfl rfl ?_
 simp only [Act.put, pu]
 refine pw_value (by rfl) (.string ⟨(ckL s true).toArray⟩) (fun w' => (y_cat _ _ _ _ rfl [UInt8.ofNat (1 + s.length)] s rfl rfl (by simp; omega) w').trans (by rw [hckL])) ?_
 simp only [Act.put, pu]
 refine pw_callE (by rfl) 29 _ _ rfl Tryz.func29 (by kernel_rfl) #[.pointer v, .string ⟨(ckL s true).toArray⟩] rfl (hnu _ sb) ?_
 rintro _ z7009 ⟨g, rfl, n', r', hb⟩
 refine ⟨_, rfl, ?_⟩
 simp only [Act.put, pu]
 have dBx' := Nat.lt_of_lt_of_le rB.lt n'
 have b' := Nat.le_trans sb.size n'
 clear n'
 have k := Kept.ofBelow hb
 clear hb
 replace rB := k.row rB (by simp <;> omega)
 replace sb := sb.trans (k.below w.heap.size sb.size (by simp <;> omega))
 clear k
 refine pw_as (by rfl) rfl rfl ?_
 simp only [Act.put, pu]
 refine pw_value (by rfl) (.int .i64 0) (fun _ => rfl) ?_
 simp only [Act.put, pu]
 refine pw_nil ?_
 go_wp2
 go_ret2
 exact ⟨g, rfl, b', r', sb⟩
theorem put_ok (v : Option Addr) (z : Nat) (s : List UInt8) (b : Bool) (w : World) (hz : 0 < z) (hz2 : z ≤ 32) (hs : b = true → s.length ≤ 24) (h : SzAt w v z) :
  Calls Tryz.prog 9 #[.pointer v, .string ⟨(s).toArray⟩, .bool b] w fun e w' => ∃ g, e = .returned (.tuple #[.slice (some ⟨g, 0, none⟩) (pN (ckL s b).length z) (pN (ckL s b).length z), .int .i64 0]) ∧ w.heap.size ≤ g ∧ Row w' g (nsC (pN (ckL s b).length z) (ckF (ckL s b) z)) 26 ∧ Below w.heap.size w w' := by
 cases b with
 | false => exact put_none v z s w hz hz2 h
 | true => exact put_some v z s w hz hz2 (hs rfl) h
set_option maxRecDepth 100000 in
set_option maxHeartbeats 2000000 in
theorem ckCount_nog (v : Option Addr) (n : Int) (w : World) (h : SzAt w v 0) :
  Calls Tryz.prog 12 #[.pointer v, .int .i64 n] w fun e w' => e = .returned (.int .i64 0) ∧ Below w.heap.size w w' := by
 go_enter Tryz.func12, Tryz.ntmps12
 have sb := sbmk w
 (repeat ((fail_if_success with_reducible refine rg ?_); go_step))
 refine wp_region_pw ?_
 refine pw_value (by rfl) (.int .i64 0) (fun _ => rfl) ?_
 simp only [Act.put, pu]
 refine pw_nil ?_
 (repeat ((fail_if_success with_reducible refine rg ?_); go_step))
 refine wp_region_pw ?_
 refine pw_mv (by rfl) rfl rfl ?_
 simp only [Act.put, pu]
 refine pw_callB (by rfl) 28 _ _ rfl Tryz.func28 (by kernel_rfl) #[.pointer v] rfl _ (isG_any v 0 false _ rfl (h.below sb)) ?_
 intro z1001 k
 simp only [Act.put, pu]
 replace sb := sb.trans (k.below w.heap.size sb.size (by simp <;> omega))
 clear k
 refine pw_value (by rfl) (.bool true) (exec_not _ _ rfl false rfl) ?_
 simp only [Act.put, pu]
 refine pw_mv (by rfl) rfl rfl ?_
 simp only [Act.put, pu]
 refine pw_skip (by rfl) ?_
 simp only [Act.put, pu]
 refine pw_skip (by rfl) ?_
 simp only [Act.put, pu]
 refine pw_pick (by rfl) true (v := .bool true) rfl rfl rfl ?_
 simp only [Act.put, pu]
 refine pw_mv (by rfl) rfl rfl ?_
 simp only [Act.put, pu]
 refine pw_skip (by rfl) ?_
 simp only [Act.put, pu]
 refine pw_skip (by rfl) ?_
 simp only [Act.put, pu]
 refine pw_pick (by rfl) true (v := .bool true) rfl rfl rfl ?_
 simp only [Act.put, pu]
 refine pw_nil ?_
 (repeat ((fail_if_success with_reducible refine rg ?_); go_step))
 refine wp_region_pw ?_
 refine pw_value (by rfl) (.int .i64 0) (fun _ => rfl) ?_
 simp only [Act.put, pu]
 refine pw_nil ?_
 go_wp2
 go_ret
 exact ⟨rfl, sb⟩
set_option maxRecDepth 100000 in
set_option maxHeartbeats 2000000 in
theorem ckCount_any (v : Option Addr) (z : Nat) (n : Int) (w : World) (hz : 0 < z) (hz2 : z ≤ 32) (h : SzAt w v z) :
  Calls Tryz.prog 12 #[.pointer v, .int .i64 n] w fun e w' => e = .returned (.int .i64 (ckN z n)) ∧ Below w.heap.size w w' := by
 go_enter Tryz.func12, Tryz.ntmps12
 have sb := sbmk w
 (repeat ((fail_if_success with_reducible refine rg ?_); go_step))
 refine wp_region_pw ?_
 refine pw_value (by rfl) (.int .i64 0) (fun _ => rfl) ?_
 simp only [Act.put, pu]
 refine pw_nil ?_
 by_cases h0 : n < 0
 ·(repeat ((fail_if_success with_reducible refine rg ?_); go_step))
  refine wp_region_pw ?_
  refine pw_mv (by rfl) rfl rfl ?_
  simp only [Act.put, pu]
  refine pw_callB (by rfl) 28 _ _ rfl Tryz.func28 (by kernel_rfl) #[.pointer v] rfl _ (isG_any v z true _ (decide_eq_true (by omega)) (h.below sb)) ?_
  intro z1001 k
  simp only [Act.put, pu]
  replace sb := sb.trans (k.below w.heap.size sb.size (by simp <;> omega))
  clear k
  refine pw_value (by rfl) (.bool false) (exec_not _ _ rfl true rfl) ?_
  simp only [Act.put, pu]
  refine pw_mv (by rfl) rfl rfl ?_
  simp only [Act.put, pu]
  refine pw_mv (by rfl) rfl rfl ?_
  simp only [Act.put, pu]
  refine pw_value (by rfl) (.bool true) (exec_lt_b _ _ _ _ rfl n 0 rfl rfl true (decide_eq_true h0)) ?_
  simp only [Act.put, pu]
  refine pw_pick (by rfl) false (v := .bool true) rfl rfl rfl ?_
  simp only [Act.put, pu]
  refine pw_mv (by rfl) rfl rfl ?_
  simp only [Act.put, pu]
  refine pw_skip (by rfl) ?_
  simp only [Act.put, pu]
  refine pw_skip (by rfl) ?_
  simp only [Act.put, pu]
  refine pw_pick (by rfl) true (v := .bool true) rfl rfl rfl ?_
  simp only [Act.put, pu]
  refine pw_nil ?_
  (repeat ((fail_if_success with_reducible refine rg ?_); go_step))
  refine wp_region_pw ?_
  refine pw_value (by rfl) (.int .i64 0) (fun _ => rfl) ?_
  simp only [Act.put, pu]
  refine pw_nil ?_
  go_wp2
  go_ret
  exact ⟨by rw [show ckN z n = 0 from if_neg (by omega)]; rfl, sb⟩
 by_cases h1 : 24 < n
 ·(repeat ((fail_if_success with_reducible refine rg ?_); go_step))
  refine wp_region_pw ?_
  refine pw_mv (by rfl) rfl rfl ?_
  simp only [Act.put, pu]
  refine pw_callB (by rfl) 28 _ _ rfl Tryz.func28 (by kernel_rfl) #[.pointer v] rfl _ (isG_any v z true _ (decide_eq_true (by omega)) (h.below sb)) ?_
  intro z1001 k
  simp only [Act.put, pu]
  replace sb := sb.trans (k.below w.heap.size sb.size (by simp <;> omega))
  clear k
  refine pw_value (by rfl) (.bool false) (exec_not _ _ rfl true rfl) ?_
  simp only [Act.put, pu]
  refine pw_mv (by rfl) rfl rfl ?_
  simp only [Act.put, pu]
  refine pw_mv (by rfl) rfl rfl ?_
  simp only [Act.put, pu]
  refine pw_value (by rfl) (.bool false) (exec_lt_b _ _ _ _ rfl n 0 rfl rfl false (decide_eq_false h0)) ?_
  simp only [Act.put, pu]
  refine pw_pick (by rfl) false (v := .bool false) rfl rfl rfl ?_
  simp only [Act.put, pu]
  refine pw_mv (by rfl) rfl rfl ?_
  simp only [Act.put, pu]
  refine pw_mv (by rfl) rfl rfl ?_
  simp only [Act.put, pu]
  refine pw_value (by rfl) (.bool true) (exec_gt_i _ _ _ _ rfl n 24 rfl rfl true (decide_eq_true h1)) ?_
  simp only [Act.put, pu]
  refine pw_pick (by rfl) false (v := .bool true) rfl rfl rfl ?_
  simp only [Act.put, pu]
  refine pw_nil ?_
  (repeat ((fail_if_success with_reducible refine rg ?_); go_step))
  refine wp_region_pw ?_
  refine pw_value (by rfl) (.int .i64 0) (fun _ => rfl) ?_
  simp only [Act.put, pu]
  refine pw_nil ?_
  go_wp2
  go_ret
  exact ⟨by rw [show ckN z n = 0 from if_neg (by omega)]; rfl, sb⟩
 obtain ⟨m, rfl⟩ : ∃ m : Nat, n = m := ⟨n.toNat, by omega⟩
 have hpa := fun w' (hb : Below w.heap.size w w') => parts_any v (1 + m) z w' hz (by omega) (h.below hb)
 have hc : ckN z (m : Int) = ((pN (1 + m) z : Nat) : Int) := by
  unfold ckN
  rw [if_pos (by omega), Int.toNat_natCast, Nat.add_comm]
 ·(repeat ((fail_if_success with_reducible refine rg ?_); go_step))
  refine wp_region_pw ?_
  refine pw_mv (by rfl) rfl rfl ?_
  simp only [Act.put, pu]
  refine pw_callB (by rfl) 28 _ _ rfl Tryz.func28 (by kernel_rfl) #[.pointer v] rfl _ (isG_any v z true _ (decide_eq_true (by omega)) (h.below sb)) ?_
  intro z1001 k
  simp only [Act.put, pu]
  replace sb := sb.trans (k.below w.heap.size sb.size (by simp <;> omega))
  clear k
  refine pw_value (by rfl) (.bool false) (exec_not _ _ rfl true rfl) ?_
  simp only [Act.put, pu]
  refine pw_mv (by rfl) rfl rfl ?_
  simp only [Act.put, pu]
  refine pw_mv (by rfl) rfl rfl ?_
  simp only [Act.put, pu]
  refine pw_value (by rfl) (.bool false) (exec_lt_b _ _ _ _ rfl m 0 rfl rfl false (decide_eq_false h0)) ?_
  simp only [Act.put, pu]
  refine pw_pick (by rfl) false (v := .bool false) rfl rfl rfl ?_
  simp only [Act.put, pu]
  refine pw_mv (by rfl) rfl rfl ?_
  simp only [Act.put, pu]
  refine pw_mv (by rfl) rfl rfl ?_
  simp only [Act.put, pu]
  refine pw_value (by rfl) (.bool false) (exec_gt_i _ _ _ _ rfl m 24 rfl rfl false (decide_eq_false h1)) ?_
  simp only [Act.put, pu]
  refine pw_pick (by rfl) false (v := .bool false) rfl rfl rfl ?_
  simp only [Act.put, pu]
  refine pw_nil ?_
  (repeat ((fail_if_success with_reducible refine rg ?_); go_step))
  refine wp_region_pw ?_
  refine pw_mv (by rfl) rfl rfl ?_
  simp only [Act.put, pu]
  refine pw_mv (by rfl) rfl rfl ?_
  simp only [Act.put, pu]
  refine pw_value (by rfl) (.int .i64 ((1 + m : Nat) : Int)) (exec_add_in _ _ _ _ rfl 1 m rfl rfl (by omega)) ?_
  simp only [Act.put, pu]
  refine pw_callB (by rfl) 34 _ _ rfl Tryz.func34 (by kernel_rfl) #[.pointer v, .int .i64 ((1 + m : Nat) : Int)] rfl _ (hpa _ sb) ?_
  intro z3003 k
  simp only [Act.put, pu]
  replace sb := sb.trans (k.below w.heap.size sb.size (by simp <;> omega))
  clear k
  refine pw_as (by rfl) rfl rfl ?_
  simp only [Act.put, pu]
  refine pw_nil ?_
  go_wp2
  go_ret
  exact ⟨rfl, sb⟩
end Go.Proofs.YtdemabfpcepnfaaGreatDoor
