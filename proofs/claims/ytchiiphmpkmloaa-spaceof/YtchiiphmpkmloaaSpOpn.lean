/- Open. -/
import Derived.Test.YtchiiphmpkmloaaSpFun
import Derived.Test.YtchiiphmpkmloaaOtWalk
namespace Go.Proofs.Ytchiiphmpkmloaa
open Go.RowKit
set_option linter.unusedVariables false
set_option linter.unusedSectionVars false
set_option linter.unusedSimpArgs false
theorem own_ne0 (v : Value) : ∀ b, v.ownBlock = some b → b ∉ ([] : List Nat) := fun _ _ h => by cases h
theorem own_ne1 {v : Value} {g : Nat} (h : v.ownBlock ≠ some g) : ∀ b, v.ownBlock = some b → b ∉ [g] := fun b hb hm => by
 rw [List.mem_singleton.1 hm] at hb
 exact h hb
theorem one_v1 {v : Value} {a : Option Addr} {n c : Nat} (h : v = .slice a n c) : v.cells = #[v] ∧ v.oneCell' = true ∧ (#[v] : Array Value).all (·.oneCell') = true := by
 subst h
 exact ⟨rfl, rfl, by simp [Value.oneCell']⟩
theorem OwnS.below {w w2 : World} {base : Nat} {v : Value} {l : List Ky} (h : OwnS w base v l) (hb : Below w.heap.size w w2) : OwnS w2 base v l := own_below h hb
theorem OwnS.belowAll {w w2 : World} {base : Nat} {v : Value} {l : List Ky} (h : OwnS w base v l) (hb : Below w.heap.size w w2) : OwnS w2 base v l := own_below h hb
theorem OwnS.on {w w2 : World} {base : Nat} {v : Value} {l : List Ky} {S : List Nat} (h : OwnS w base v l) (hk : Kept S w w2) (hS : ∀ b, v.ownBlock = some b → b ∉ S) : OwnS w2 base v l := own_on h hk hS
theorem Kept.more {S T : List Nat} {w w2 : World} (h : Kept S w w2) (hs : ∀ g ∈ S, g ∈ T) : Kept T w w2 := ⟨h.os, h.tape, h.output, h.size, fun b hb hn => h.block b hb fun hm => hn (hs b hm)⟩
theorem lit_str {n : Nat} (vs : List (Nat × Value)) (c : Array Value) (k : Nat) (hk : k = 1) (h : Instr.fill (fun i => some (i * 1, 1)) ((Array.range (n * 1)).map ((Value.string ⟨#[]⟩).cells[· % (Value.string ⟨#[]⟩).cells.size]!)) vs = some c) :
  Instr.fill (fun i => some (i * k, k)) ((Array.range (n * k)).map ((Value.string ⟨#[]⟩).cells[· % (Value.string ⟨#[]⟩).cells.size]!)) vs = some c := by
 subst hk
 exact h
theorem lit_str1 (x : Ky) (k : Nat) (hk : k = 1) : Instr.fill (fun i => some (i * k, k)) ((Array.range (1 * k)).map ((Value.string ⟨#[]⟩).cells[· % (Value.string ⟨#[]⟩).cells.size]!)) [(0, .string ⟨x.toArray⟩)] = some #[strV x] := by
 subst hk
 kernel_rfl
set_option maxRecDepth 100000 in
set_option maxHeartbeats 2000000 in
theorem open_nil (x : Ky) (e : Int) (w : World) :
  Calls Try.prog 11 #[.pointer none, .string ⟨x.toArray⟩, .int .i64 e] w fun e' w' => e' = .returned (.tuple #[.int .i64 0, .bool false, .int .i64 1]) ∧ Below w.heap.size w w' := by
 go_enter Try.func11, Try.ntmps11
 have sb := sbmk w
 (repeat ((fail_if_success with_reducible refine rg ?_); go_step))
 refine wp_region_pw ?_
 refine pw_value (by rfl) (.int .i64 0) (fun _ => rfl) ?_
 simp only [Act.put, pu]
 refine pw_value (by rfl) (.bool false) (fun _ => rfl) ?_
 simp only [Act.put, pu]
 refine pw_value (by rfl) (.int .i64 0) (fun _ => rfl) ?_
 simp only [Act.put, pu]
 refine pw_nil ?_
 (repeat ((fail_if_success with_reducible refine rg ?_); go_step))
 refine wp_region_pw ?_
 refine pw_mv (by rfl) rfl rfl ?_
 simp only [Act.put, pu]
 refine pw_mv (by rfl) rfl rfl ?_
 simp only [Act.put, pu]
 refine pw_callB (by rfl) 22 _ _ rfl Try.func22 (by kernel_rfl) #[.pointer none, .int .i64 e] rfl _ (end_nil e _) ?_
 intro z1002 k
 simp only [Act.put, pu]
 replace sb := sb.trans (k.below w.heap.size sb.size (by simp <;> omega))
 clear k
 refine pw_value (by rfl) (.bool true) (exec_not _ _ rfl false rfl) ?_
 simp only [Act.put, pu]
 refine pw_mv (by rfl) rfl rfl ?_
 simp only [Act.put, pu]
 refine pw_skip (by rfl) ?_
 simp only [Act.put, pu]
 refine pw_skip (by rfl) ?_
 simp only [Act.put, pu]
 refine pw_skip (by rfl) ?_
 simp only [Act.put, pu]
 refine pw_pick (by rfl) true (v := .bool true) rfl rfl rfl ?_
 simp only [Act.put, pu]
 refine pw_nil ?_
 (repeat ((fail_if_success with_reducible refine rg ?_); go_step))
 refine wp_region_pw ?_
 refine pw_value (by rfl) (.int .i64 0) (fun _ => rfl) ?_
 simp only [Act.put, pu]
 refine pw_value (by rfl) (.bool false) (fun _ => rfl) ?_
 simp only [Act.put, pu]
 refine pw_value (by rfl) (.int .i64 1) (fun _ => rfl) ?_
 simp only [Act.put, pu]
 refine pw_nil ?_
 go_wp2
 go_ret3
 exact ⟨rfl, sb⟩
set_option maxRecDepth 100000 in
set_option maxHeartbeats 2000000 in
theorem open_no (g1 : Nat) (n m : Int) (kv mv : Value) (x : Ky) (e : Int) (w : World) (r1 : Row w g1 (sxC n m kv mv) 57) (hn : n ≤ 0) :
  Calls Try.prog 11 #[.pointer (some ⟨g1, 0, none⟩), .string ⟨x.toArray⟩, .int .i64 e] w fun e' w' => e' = .returned (.tuple #[.int .i64 0, .bool false, .int .i64 1]) ∧ Below w.heap.size w w' := by
 go_enter Try.func11, Try.ntmps11
 have sb := sbmk w
 (repeat ((fail_if_success with_reducible refine rg ?_); go_step))
 refine wp_region_pw ?_
 refine pw_value (by rfl) (.int .i64 0) (fun _ => rfl) ?_
 simp only [Act.put, pu]
 refine pw_value (by rfl) (.bool false) (fun _ => rfl) ?_
 simp only [Act.put, pu]
 refine pw_value (by rfl) (.int .i64 0) (fun _ => rfl) ?_
 simp only [Act.put, pu]
 refine pw_nil ?_
 (repeat ((fail_if_success with_reducible refine rg ?_); go_step))
 refine wp_region_pw ?_
 refine pw_mv (by rfl) rfl rfl ?_
 simp only [Act.put, pu]
 refine pw_mv (by rfl) rfl rfl ?_
 simp only [Act.put, pu]
 refine pw_callB (by rfl) 22 _ _ rfl Try.func22 (by kernel_rfl) #[.pointer (some ⟨g1, 0, none⟩), .int .i64 e] rfl _ (end_no g1 n m kv mv e _ r1 hn) ?_
 intro z1002 k
 simp only [Act.put, pu]
 replace sb := sb.trans (k.below w.heap.size sb.size (by simp <;> omega))
 clear k
 refine pw_value (by rfl) (.bool true) (exec_not _ _ rfl false rfl) ?_
 simp only [Act.put, pu]
 refine pw_mv (by rfl) rfl rfl ?_
 simp only [Act.put, pu]
 refine pw_skip (by rfl) ?_
 simp only [Act.put, pu]
 refine pw_skip (by rfl) ?_
 simp only [Act.put, pu]
 refine pw_skip (by rfl) ?_
 simp only [Act.put, pu]
 refine pw_pick (by rfl) true (v := .bool true) rfl rfl rfl ?_
 simp only [Act.put, pu]
 refine pw_nil ?_
 (repeat ((fail_if_success with_reducible refine rg ?_); go_step))
 refine wp_region_pw ?_
 refine pw_value (by rfl) (.int .i64 0) (fun _ => rfl) ?_
 simp only [Act.put, pu]
 refine pw_value (by rfl) (.bool false) (fun _ => rfl) ?_
 simp only [Act.put, pu]
 refine pw_value (by rfl) (.int .i64 1) (fun _ => rfl) ?_
 simp only [Act.put, pu]
 refine pw_nil ?_
 go_wp2
 go_ret3
 exact ⟨rfl, sb⟩
set_option maxRecDepth 100000 in
set_option maxHeartbeats 2000000 in
theorem open_arg (g1 : Nat) (n m : Int) (kv mv : Value) (x : Ky) (e : Int) (w : World) (r1 : Row w g1 (sxC n m kv mv) 57) (hn : 1 ≤ n) (hn7 : n ≤ 7) (hm : 0 ≤ m) (hm4 : m ≤ 4) (hx : x.length ≤ 16777216) (h : ¬ (endB n m e = true ∧ kyB x = true)) :
  Calls Try.prog 11 #[.pointer (some ⟨g1, 0, none⟩), .string ⟨x.toArray⟩, .int .i64 e] w fun e' w' => e' = .returned (.tuple #[.int .i64 0, .bool false, .int .i64 1]) ∧ Below w.heap.size w w' := by
 have hE := fun w' (hb : Below w.heap.size w w') => end_any g1 n m kv mv e w' (r1.belowAll hb) hn hn7 hm hm4
 have hY := fun w' => key_any x w' hx
 cases h1 : endB n m e with
 | false =>
  rw [h1] at hE
  clear h h1
  go_enter Try.func11, Try.ntmps11
  have sb := sbmk w
  (repeat ((fail_if_success with_reducible refine rg ?_); go_step))
  refine wp_region_pw ?_
  refine pw_value (by rfl) (.int .i64 0) (fun _ => rfl) ?_
  simp only [Act.put, pu]
  refine pw_value (by rfl) (.bool false) (fun _ => rfl) ?_
  simp only [Act.put, pu]
  refine pw_value (by rfl) (.int .i64 0) (fun _ => rfl) ?_
  simp only [Act.put, pu]
  refine pw_nil ?_
  (repeat ((fail_if_success with_reducible refine rg ?_); go_step))
  refine wp_region_pw ?_
  refine pw_mv (by rfl) rfl rfl ?_
  simp only [Act.put, pu]
  refine pw_mv (by rfl) rfl rfl ?_
  simp only [Act.put, pu]
  refine pw_callB (by rfl) 22 _ _ rfl Try.func22 (by kernel_rfl) #[.pointer (some ⟨g1, 0, none⟩), .int .i64 e] rfl _ (hE _ sb) ?_
  intro z1002 k
  simp only [Act.put, pu]
  replace sb := sb.trans (k.below w.heap.size sb.size (by simp <;> omega))
  clear k
  refine pw_value (by rfl) (.bool true) (exec_not _ _ rfl false rfl) ?_
  simp only [Act.put, pu]
  refine pw_mv (by rfl) rfl rfl ?_
  simp only [Act.put, pu]
  refine pw_skip (by rfl) ?_
  simp only [Act.put, pu]
  refine pw_skip (by rfl) ?_
  simp only [Act.put, pu]
  refine pw_skip (by rfl) ?_
  simp only [Act.put, pu]
  refine pw_pick (by rfl) true (v := .bool true) rfl rfl rfl ?_
  simp only [Act.put, pu]
  refine pw_nil ?_
  (repeat ((fail_if_success with_reducible refine rg ?_); go_step))
  refine wp_region_pw ?_
  refine pw_value (by rfl) (.int .i64 0) (fun _ => rfl) ?_
  simp only [Act.put, pu]
  refine pw_value (by rfl) (.bool false) (fun _ => rfl) ?_
  simp only [Act.put, pu]
  refine pw_value (by rfl) (.int .i64 1) (fun _ => rfl) ?_
  simp only [Act.put, pu]
  refine pw_nil ?_
  go_wp2
  go_ret3
  exact ⟨rfl, sb⟩
 | true =>
  have h2 : kyB x = false := by
   cases h3 : kyB x with
   | false => rfl
   | true => exact absurd ⟨h1, h3⟩ h
  rw [h1] at hE
  rw [h2] at hY
  clear h h1 h2
  go_enter Try.func11, Try.ntmps11
  have sb := sbmk w
  (repeat ((fail_if_success with_reducible refine rg ?_); go_step))
  refine wp_region_pw ?_
  refine pw_value (by rfl) (.int .i64 0) (fun _ => rfl) ?_
  simp only [Act.put, pu]
  refine pw_value (by rfl) (.bool false) (fun _ => rfl) ?_
  simp only [Act.put, pu]
  refine pw_value (by rfl) (.int .i64 0) (fun _ => rfl) ?_
  simp only [Act.put, pu]
  refine pw_nil ?_
  (repeat ((fail_if_success with_reducible refine rg ?_); go_step))
  refine wp_region_pw ?_
  refine pw_mv (by rfl) rfl rfl ?_
  simp only [Act.put, pu]
  refine pw_mv (by rfl) rfl rfl ?_
  simp only [Act.put, pu]
  refine pw_callB (by rfl) 22 _ _ rfl Try.func22 (by kernel_rfl) #[.pointer (some ⟨g1, 0, none⟩), .int .i64 e] rfl _ (hE _ sb) ?_
  intro z1002 k
  simp only [Act.put, pu]
  replace sb := sb.trans (k.below w.heap.size sb.size (by simp <;> omega))
  clear k
  refine pw_value (by rfl) (.bool false) (exec_not _ _ rfl true rfl) ?_
  simp only [Act.put, pu]
  refine pw_mv (by rfl) rfl rfl ?_
  simp only [Act.put, pu]
  refine pw_mv (by rfl) rfl rfl ?_
  simp only [Act.put, pu]
  refine pw_callB (by rfl) 23 _ _ rfl Try.func23 (by kernel_rfl) #[.string ⟨x.toArray⟩] rfl _ (hY _) ?_
  intro z1006 k
  simp only [Act.put, pu]
  replace sb := sb.trans (k.below w.heap.size sb.size (by simp <;> omega))
  clear k
  refine pw_value (by rfl) (.bool true) (exec_not _ _ rfl false rfl) ?_
  simp only [Act.put, pu]
  refine pw_pick (by rfl) false (v := .bool true) rfl rfl rfl ?_
  simp only [Act.put, pu]
  refine pw_nil ?_
  (repeat ((fail_if_success with_reducible refine rg ?_); go_step))
  refine wp_region_pw ?_
  refine pw_value (by rfl) (.int .i64 0) (fun _ => rfl) ?_
  simp only [Act.put, pu]
  refine pw_value (by rfl) (.bool false) (fun _ => rfl) ?_
  simp only [Act.put, pu]
  refine pw_value (by rfl) (.int .i64 1) (fun _ => rfl) ?_
  simp only [Act.put, pu]
  refine pw_nil ?_
  go_wp2
  go_ret3
  exact ⟨rfl, sb⟩
set_option maxRecDepth 100000 in
set_option maxHeartbeats 2000000 in
theorem open_known (g1 : Nat) (n m : Int) (mb : Nat) (ab : Option Addr) (c : Nat) (l : List Ky) (U : Int → Int) (base : Nat) (x : Ky) (e : Int) (w : World) (r1 : Row w g1 (sxC n m (.slice ab l.length c) (.map (some mb))) 57) (hO : OwnS w base (.slice ab l.length c) l) (hM : MapI w mb U) (hs : Srt l) (hl : l.length ≤ 1000) (hn : 1 ≤ n) (hn7 : n ≤ 7) (hm : 0 ≤ m) (hm4 : m ≤ 4) (he : endB n m e = true) (hx : kyB x = true) (hxl : x ∈ l) :
  Calls Try.prog 11 #[.pointer (some ⟨g1, 0, none⟩), .string ⟨x.toArray⟩, .int .i64 e] w fun e' w' => e' = .returned (.tuple #[.int .i64 (rk x l : Nat), .bool false, .int .i64 0]) ∧ Below w.heap.size w w' := by
 have hx8 : x.length ≤ 16777216 := by have := of_decide_eq_true hx; omega
 have hE := fun w' (hb : Below w.heap.size w w') => end_any g1 n m _ _ e w' (r1.belowAll hb) hn hn7 hm hm4
 have hY := fun w' => key_any x w' hx8
 rw [he] at hE
 rw [hx] at hY
 obtain ⟨gb, bcs, hz⟩ : ∃ gb bcs, ElsAt 1 w ab l.length (stC l) gb 0 bcs 9 := by
  obtain ⟨a2, c2, gb, cur, h1, h2, h3⟩ := ownE_els (stC_size l) hO.e
  cases h1
  exact ⟨gb, cur, h3⟩
 have hB := fun w' (hb : Below w.heap.size w w') => bs_any ab c l gb 0 bcs 9 x w' hs (by omega) (hz.below hb)
 rw [decide_eq_true hxl] at hB
 clear hO hM hz hs he hx hxl
 go_enter Try.func11, Try.ntmps11
 have sb := sbmk w
 (repeat ((fail_if_success with_reducible refine rg ?_); go_step))
 refine wp_region_pw ?_
 refine pw_value (by rfl) (.int .i64 0) (fun _ => rfl) ?_
 simp only [Act.put, pu]
 refine pw_value (by rfl) (.bool false) (fun _ => rfl) ?_
 simp only [Act.put, pu]
 refine pw_value (by rfl) (.int .i64 0) (fun _ => rfl) ?_
 simp only [Act.put, pu]
 refine pw_nil ?_
 (repeat ((fail_if_success with_reducible refine rg ?_); go_step))
 refine wp_region_pw ?_
 refine pw_mv (by rfl) rfl rfl ?_
 simp only [Act.put, pu]
 refine pw_mv (by rfl) rfl rfl ?_
 simp only [Act.put, pu]
 refine pw_callB (by rfl) 22 _ _ rfl Try.func22 (by kernel_rfl) #[.pointer (some ⟨g1, 0, none⟩), .int .i64 e] rfl _ (hE _ sb) ?_
 intro z1002 k
 simp only [Act.put, pu]
 replace r1 := k.row r1 (by simp <;> omega)
 replace sb := sb.trans (k.below w.heap.size sb.size (by simp <;> omega))
 clear k
 refine pw_value (by rfl) (.bool false) (exec_not _ _ rfl true rfl) ?_
 simp only [Act.put, pu]
 refine pw_mv (by rfl) rfl rfl ?_
 simp only [Act.put, pu]
 refine pw_mv (by rfl) rfl rfl ?_
 simp only [Act.put, pu]
 refine pw_callB (by rfl) 23 _ _ rfl Try.func23 (by kernel_rfl) #[.string ⟨x.toArray⟩] rfl _ (hY _) ?_
 intro z1006 k
 simp only [Act.put, pu]
 replace r1 := k.row r1 (by simp <;> omega)
 replace sb := sb.trans (k.below w.heap.size sb.size (by simp <;> omega))
 clear k
 refine pw_value (by rfl) (.bool false) (exec_not _ _ rfl true rfl) ?_
 simp only [Act.put, pu]
 refine pw_pick (by rfl) false (v := .bool false) rfl rfl rfl ?_
 simp only [Act.put, pu]
 refine pw_nil ?_
 (repeat ((fail_if_success with_reducible refine rg ?_); go_step))
 refine wp_region_pw ?_
 refine pw_mv (by rfl) rfl rfl ?_
 simp only [Act.put, pu]
 refine pw_value (by rfl) (.pointer (some ⟨g1, 0, none⟩)) (exec_nil _ rfl g1 (0) rfl) ?_
 simp only [Act.put, pu]
 refine pw_value (by rfl) (.pointer (some ⟨g1, 2, none⟩)) (exec_field 57 _ 2 rfl g1 0 rfl _ Try.underlying57 _ rfl 0 Try.sizeOf30) ?_
 simp only [Act.put, pu]
 refine pw_loadk (by rfl) 30 _ rfl _ (2) rfl r1.r (.slice ab l.length c) rfl Try.isAgg30 ?_
 simp only [Act.put, pu]
 refine pw_mv (by rfl) rfl rfl ?_
 simp only [Act.put, pu]
 refine pw_callB (by rfl) 24 _ _ rfl Try.func24 (by kernel_rfl) #[.slice ab l.length c, .string ⟨x.toArray⟩] rfl _ (hB _ sb) ?_
 intro z3005 k
 simp only [Act.put, pu]
 replace r1 := k.row r1 (by simp <;> omega)
 replace sb := sb.trans (k.below w.heap.size sb.size (by simp <;> omega))
 clear k
 refine pw_mv (by rfl) rfl rfl ?_
 simp only [Act.put, pu]
 refine pw_ext (by rfl) rfl rfl rfl ?_
 simp only [Act.put, pu]
 refine pw_ext (by rfl) rfl rfl rfl ?_
 simp only [Act.put, pu]
 refine pw_as (by rfl) rfl rfl ?_
 simp only [Act.put, pu]
 refine pw_as (by rfl) rfl rfl ?_
 simp only [Act.put, pu]
 refine pw_nil ?_
 (repeat ((fail_if_success with_reducible refine rg ?_); go_step))
 refine wp_region_pw ?_
 refine pw_mv (by rfl) rfl rfl ?_
 simp only [Act.put, pu]
 refine pw_nil ?_
 (repeat ((fail_if_success with_reducible refine rg ?_); go_step))
 refine wp_region_pw ?_
 refine pw_mv (by rfl) rfl rfl ?_
 simp only [Act.put, pu]
 refine pw_as (by rfl) rfl rfl ?_
 simp only [Act.put, pu]
 refine pw_value (by rfl) (.bool false) (fun _ => rfl) ?_
 simp only [Act.put, pu]
 refine pw_value (by rfl) (.int .i64 0) (fun _ => rfl) ?_
 simp only [Act.put, pu]
 refine pw_nil ?_
 go_wp2
 go_ret3
 exact ⟨rfl, sb⟩
theorem Kept.on' {S : List Nat} {w w2 : World} {b : Nat} {U : Int → Int} (hk : Kept S w w2) (h : MapI w b U) (hS : b ∉ S) : MapI w2 b U := h.on hk hS
section
variable {P : Program} {ops : Array Oper} {W : World} {Q : Act → Prop} {rest : List Oper} {o : Oper} {a : Act}
theorem qw_look (hw : Region.wanted o (yielded ops a.tmps) = true) (mt kt et : TypeId) (x y : Operand) (ho : o.op = .lookup mt x y false) {b : Nat} {U : Int → Int} (hx : a.eval x = .map (some b)) (k : Int) (hy : a.eval y = .int .i64 k) (hm : P.underlying mt = some (.map kt et)) (hk : P.underlying kt = some (.int .i64)) (hz : ∀ w, (zeroValue et).run P w = .ok (.int .i64 0) w) (hM : MapI W b U)
  (h : QW P ops W Q rest (a.put o.dst (.int .i64 (U k)))) : QW P ops W Q (o :: rest) a := by
 refine ⟨?_⟩
 unfold wpQuiet
 rw [if_pos hw]
 refine ⟨_, fun w hC => ?_, h.out⟩
 unfold Oper.quietAt
 rw [x_look mt kt et x y ho hx k hy hm hk hz (hM.belowAll hC)]
 exact ⟨rfl, rfl⟩
end
set_option maxRecDepth 100000 in
set_option maxHeartbeats 2000000 in
theorem open_quota (g1 : Nat) (n m : Int) (mb : Nat) (ab : Option Addr) (c : Nat) (l : List Ky) (U : Int → Int) (base : Nat) (x : Ky) (e : Int) (w : World) (r1 : Row w g1 (sxC n m (.slice ab l.length c) (.map (some mb))) 57) (hO : OwnS w base (.slice ab l.length c) l) (hM : MapI w mb U) (hs : Srt l) (hl : l.length ≤ 1000) (hn : 1 ≤ n) (hn7 : n ≤ 7) (hm : 0 ≤ m) (hm4 : m ≤ 4) (he : endB n m e = true) (hx : kyB x = true) (hxl : x ∉ l) (hq : quo n m e ≤ U e) :
  Calls Try.prog 11 #[.pointer (some ⟨g1, 0, none⟩), .string ⟨x.toArray⟩, .int .i64 e] w fun e' w' => e' = .returned (.tuple #[.int .i64 0, .bool false, .int .i64 7]) ∧ Below w.heap.size w w' := by
 have hx8 : x.length ≤ 16777216 := by have := of_decide_eq_true hx; omega
 have hE := fun w' (hb : Below w.heap.size w w') => end_any g1 n m _ _ e w' (r1.belowAll hb) hn hn7 hm hm4
 have hY := fun w' => key_any x w' hx8
 rw [he] at hE
 rw [hx] at hY
 obtain ⟨gb, bcs, hz⟩ : ∃ gb bcs, ElsAt 1 w ab l.length (stC l) gb 0 bcs 9 := by
  obtain ⟨a2, c2, gb, cur, h1, h2, h3⟩ := ownE_els (stC_size l) hO.e
  cases h1
  exact ⟨gb, cur, h3⟩
 have hB := fun w' (hb : Below w.heap.size w w') => bs_any ab c l gb 0 bcs 9 x w' hs (by omega) (hz.below hb)
 rw [decide_eq_false hxl] at hB
 have hQ := fun w' (hb : Below w.heap.size w w') => quo_any g1 n m _ _ e w' (r1.belowAll hb) hn hn7 hm hm4
 clear hz hs he hx hxl
 go_enter Try.func11, Try.ntmps11
 have sb := sbmk w
 (repeat ((fail_if_success with_reducible refine rg ?_); go_step))
 refine wp_region_pw ?_
 refine pw_value (by rfl) (.int .i64 0) (fun _ => rfl) ?_
 simp only [Act.put, pu]
 refine pw_value (by rfl) (.bool false) (fun _ => rfl) ?_
 simp only [Act.put, pu]
 refine pw_value (by rfl) (.int .i64 0) (fun _ => rfl) ?_
 simp only [Act.put, pu]
 refine pw_nil ?_
 (repeat ((fail_if_success with_reducible refine rg ?_); go_step))
 refine wp_region_pw ?_
 refine pw_mv (by rfl) rfl rfl ?_
 simp only [Act.put, pu]
 refine pw_mv (by rfl) rfl rfl ?_
 simp only [Act.put, pu]
 refine pw_callB (by rfl) 22 _ _ rfl Try.func22 (by kernel_rfl) #[.pointer (some ⟨g1, 0, none⟩), .int .i64 e] rfl _ (hE _ sb) ?_
 intro z1002 k
 simp only [Act.put, pu]
 replace r1 := k.row r1 (by simp <;> omega)
 replace hM := hM.on k (by simp <;> omega)
 replace hO := hO.below k.nil
 replace sb := sb.trans (k.below w.heap.size sb.size (by simp <;> omega))
 clear k
 refine pw_value (by rfl) (.bool false) (exec_not _ _ rfl true rfl) ?_
 simp only [Act.put, pu]
 refine pw_mv (by rfl) rfl rfl ?_
 simp only [Act.put, pu]
 refine pw_mv (by rfl) rfl rfl ?_
 simp only [Act.put, pu]
 refine pw_callB (by rfl) 23 _ _ rfl Try.func23 (by kernel_rfl) #[.string ⟨x.toArray⟩] rfl _ (hY _) ?_
 intro z1006 k
 simp only [Act.put, pu]
 replace r1 := k.row r1 (by simp <;> omega)
 replace hM := hM.on k (by simp <;> omega)
 replace hO := hO.below k.nil
 replace sb := sb.trans (k.below w.heap.size sb.size (by simp <;> omega))
 clear k
 refine pw_value (by rfl) (.bool false) (exec_not _ _ rfl true rfl) ?_
 simp only [Act.put, pu]
 refine pw_pick (by rfl) false (v := .bool false) rfl rfl rfl ?_
 simp only [Act.put, pu]
 refine pw_nil ?_
 (repeat ((fail_if_success with_reducible refine rg ?_); go_step))
 refine wp_region_pw ?_
 refine pw_mv (by rfl) rfl rfl ?_
 simp only [Act.put, pu]
 refine pw_value (by rfl) (.pointer (some ⟨g1, 0, none⟩)) (exec_nil _ rfl g1 (0) rfl) ?_
 simp only [Act.put, pu]
 refine pw_value (by rfl) (.pointer (some ⟨g1, 2, none⟩)) (exec_field 57 _ 2 rfl g1 0 rfl _ Try.underlying57 _ rfl 0 Try.sizeOf30) ?_
 simp only [Act.put, pu]
 refine pw_loadk (by rfl) 30 _ rfl _ (2) rfl r1.r (.slice ab l.length c) rfl Try.isAgg30 ?_
 simp only [Act.put, pu]
 refine pw_mv (by rfl) rfl rfl ?_
 simp only [Act.put, pu]
 refine pw_callB (by rfl) 24 _ _ rfl Try.func24 (by kernel_rfl) #[.slice ab l.length c, .string ⟨x.toArray⟩] rfl _ (hB _ sb) ?_
 intro z3005 k
 simp only [Act.put, pu]
 replace r1 := k.row r1 (by simp <;> omega)
 replace hM := hM.on k (by simp <;> omega)
 replace hO := hO.below k.nil
 replace sb := sb.trans (k.below w.heap.size sb.size (by simp <;> omega))
 clear k
 refine pw_mv (by rfl) rfl rfl ?_
 simp only [Act.put, pu]
 refine pw_ext (by rfl) rfl rfl rfl ?_
 simp only [Act.put, pu]
 refine pw_ext (by rfl) rfl rfl rfl ?_
 simp only [Act.put, pu]
 refine pw_as (by rfl) rfl rfl ?_
 simp only [Act.put, pu]
 refine pw_as (by rfl) rfl rfl ?_
 simp only [Act.put, pu]
 refine pw_nil ?_
 (repeat ((fail_if_success with_reducible refine rg ?_); go_step))
 refine wp_region_pw ?_
 refine pw_mv (by rfl) rfl rfl ?_
 simp only [Act.put, pu]
 refine pw_nil ?_
 (repeat ((fail_if_success with_reducible refine rg ?_); go_step))
 refine wp_region_qw (by kernel_rfl) (by kernel_rfl) ?_
 refine qw_move (by rfl) rfl rfl ?_
 simp only [Act.put, pu]
 refine qw_value (by rfl) (.pointer (some ⟨g1, 0, none⟩)) (exec_nil _ rfl g1 (0) rfl) ?_
 simp only [Act.put, pu]
 refine qw_value (by rfl) (.pointer (some ⟨g1, 3, none⟩)) (exec_field 57 _ 3 rfl g1 0 rfl _ Try.underlying57 _ rfl 0 Try.sizeOf55) ?_
 simp only [Act.put, pu]
 refine qw_loadc (by rfl) 55 _ rfl _ (3) rfl r1 (.map (some mb)) rfl Try.isAgg55 ?_
 simp only [Act.put, pu]
 refine qw_move (by rfl) rfl rfl ?_
 simp only [Act.put, pu]
 refine qw_look (by rfl) 55 3 3 _ _ rfl rfl e rfl Try.underlying55 Try.underlying3 z_int hM ?_
 simp only [Act.put, pu]
 refine qw_move (by rfl) rfl rfl ?_
 simp only [Act.put, pu]
 refine qw_move (by rfl) rfl rfl ?_
 simp only [Act.put, pu]
 refine qw_callK (by rfl) 16 _ _ rfl Try.func16 (by kernel_rfl) #[.pointer (some ⟨g1, 0, none⟩), .int .i64 e] rfl _ (fun w' hb => hQ w' (below_on sb (Nat.le_refl _) hb)) ?_
 simp only [Act.put, pu]
 refine qw_value (by rfl) (.bool true) (exec_geq_i _ _ _ _ rfl (U e) (quo n m e) rfl rfl true (decide_eq_true (by omega))) ?_
 simp only [Act.put, pu]
 refine qw_nil ?_
 intro w9 hqb
 replace r1 := r1.belowAll hqb
 replace hM := hM.belowAll hqb
 replace hO := hO.belowAll hqb
 replace sb := below_on sb (Nat.le_refl _) hqb
 clear hqb
 (repeat ((fail_if_success with_reducible refine rg ?_); go_step))
 refine wp_region_pw ?_
 refine pw_value (by rfl) (.int .i64 0) (fun _ => rfl) ?_
 simp only [Act.put, pu]
 refine pw_value (by rfl) (.bool false) (fun _ => rfl) ?_
 simp only [Act.put, pu]
 refine pw_value (by rfl) (.int .i64 7) (fun _ => rfl) ?_
 simp only [Act.put, pu]
 refine pw_nil ?_
 go_wp2
 go_ret3
 exact ⟨rfl, sb⟩
set_option maxRecDepth 100000 in
set_option maxHeartbeats 2000000 in
theorem open_new (g1 : Nat) (n m : Int) (mb : Nat) (ab : Option Addr) (c : Nat) (l : List Ky) (U : Int → Int) (base : Nat) (x : Ky) (e : Int) (w : World) (r1 : Row w g1 (sxC n m (.slice ab l.length c) (.map (some mb))) 57) (hO : OwnS w base (.slice ab l.length c) l) (hM : MapI w mb U) (hs : Srt l) (hl : l.length ≤ 1000) (hn : 1 ≤ n) (hn7 : n ≤ 7) (hm : 0 ≤ m) (hm4 : m ≤ 4) (he : endB n m e = true) (hx : kyB x = true) (hxl : x ∉ l) (hq : U e < quo n m e) (hU : 0 ≤ U e) (hU2 : U e ≤ 1000) (hbase : base ≤ w.heap.size) (hbg : base ≤ g1) (hbm : base ≤ mb) (n1 : (Value.slice ab l.length c).ownBlock ≠ some g1) (n2 : (Value.slice ab l.length c).ownBlock ≠ some mb) :
  Calls Try.prog 11 #[.pointer (some ⟨g1, 0, none⟩), .string ⟨x.toArray⟩, .int .i64 e] w fun e' w' => ∃ kv, e' = .returned (.tuple #[.int .i64 (rk x l : Nat), .bool true, .int .i64 0]) ∧ Row w' g1 (sxC n m kv (.map (some mb))) 57 ∧ OwnS w' base kv (insK x l) ∧ MapI w' mb (fun k => if k = e then U e + 1 else U k) ∧ Kept (g1 :: mb :: (Value.slice ab l.length c).ownBlock.toList) w w' ∧
   (kv.ownBlock = (Value.slice ab l.length c).ownBlock ∨ ∃ b, kv.ownBlock = some b ∧ w.heap.size ≤ b) := by
 have hx8 : x.length ≤ 16777216 := by have := of_decide_eq_true hx; omega
 have hE := fun w' (hb : Below w.heap.size w w') => end_any g1 n m _ _ e w' (r1.belowAll hb) hn hn7 hm hm4
 have hY := fun w' => key_any x w' hx8
 rw [he] at hE
 rw [hx] at hY
 obtain ⟨gb, bcs, hz⟩ : ∃ gb bcs, ElsAt 1 w ab l.length (stC l) gb 0 bcs 9 := by
  obtain ⟨a2, c2, gb, cur, h1, h2, h3⟩ := ownE_els (stC_size l) hO.e
  cases h1
  exact ⟨gb, cur, h3⟩
 have hB := fun w' (hb : Below w.heap.size w w') => bs_any ab c l gb 0 bcs 9 x w' hs (by omega) (hz.below hb)
 rw [decide_eq_false hxl] at hB
 have hQ := fun w' (hb : Below w.heap.size w w') => quo_any g1 n m _ _ e w' (r1.belowAll hb) hn hn7 hm hm4
 have hC := fun w' => clone_any x w' hx8
 have hgm := hM.ne r1
 have hml := hM.lt
 obtain ⟨ie, hie, hze, hsz, hby⟩ := of_info info_str
 have h11 : ¬ 1 * ie.size > 2 ^ 24 := by rw [hsz]; decide
 have h12 : ¬ 1 * ie.size = 0 := by rw [hsz]; decide
 have hl1 := lit_str1 x ie.size hsz
 clear hz he hx
 go_enter Try.func11, Try.ntmps11
 have sb := sbmk w
 (repeat ((fail_if_success with_reducible refine rg ?_); go_step))
 refine wp_region_pw ?_
 refine pw_value (by rfl) (.int .i64 0) (fun _ => rfl) ?_
 simp only [Act.put, pu]
 refine pw_value (by rfl) (.bool false) (fun _ => rfl) ?_
 simp only [Act.put, pu]
 refine pw_value (by rfl) (.int .i64 0) (fun _ => rfl) ?_
 simp only [Act.put, pu]
 refine pw_nil ?_
 (repeat ((fail_if_success with_reducible refine rg ?_); go_step))
 refine wp_region_pw ?_
 refine pw_mv (by rfl) rfl rfl ?_
 simp only [Act.put, pu]
 refine pw_mv (by rfl) rfl rfl ?_
 simp only [Act.put, pu]
 refine pw_callB (by rfl) 22 _ _ rfl Try.func22 (by kernel_rfl) #[.pointer (some ⟨g1, 0, none⟩), .int .i64 e] rfl _ (hE _ sb) ?_
 intro z1002 k
 simp only [Act.put, pu]
 replace r1 := k.row r1 (by simp <;> omega)
 replace hM := hM.on k (by simp <;> omega)
 replace hO := hO.below k.nil
 replace sb := sb.trans (k.below w.heap.size sb.size (by simp <;> omega))
 clear k
 refine pw_value (by rfl) (.bool false) (exec_not _ _ rfl true rfl) ?_
 simp only [Act.put, pu]
 refine pw_mv (by rfl) rfl rfl ?_
 simp only [Act.put, pu]
 refine pw_mv (by rfl) rfl rfl ?_
 simp only [Act.put, pu]
 refine pw_callB (by rfl) 23 _ _ rfl Try.func23 (by kernel_rfl) #[.string ⟨x.toArray⟩] rfl _ (hY _) ?_
 intro z1006 k
 simp only [Act.put, pu]
 replace r1 := k.row r1 (by simp <;> omega)
 replace hM := hM.on k (by simp <;> omega)
 replace hO := hO.below k.nil
 replace sb := sb.trans (k.below w.heap.size sb.size (by simp <;> omega))
 clear k
 refine pw_value (by rfl) (.bool false) (exec_not _ _ rfl true rfl) ?_
 simp only [Act.put, pu]
 refine pw_pick (by rfl) false (v := .bool false) rfl rfl rfl ?_
 simp only [Act.put, pu]
 refine pw_nil ?_
 (repeat ((fail_if_success with_reducible refine rg ?_); go_step))
 refine wp_region_pw ?_
 refine pw_mv (by rfl) rfl rfl ?_
 simp only [Act.put, pu]
 refine pw_value (by rfl) (.pointer (some ⟨g1, 0, none⟩)) (exec_nil _ rfl g1 (0) rfl) ?_
 simp only [Act.put, pu]
 refine pw_value (by rfl) (.pointer (some ⟨g1, 2, none⟩)) (exec_field 57 _ 2 rfl g1 0 rfl _ Try.underlying57 _ rfl 0 Try.sizeOf30) ?_
 simp only [Act.put, pu]
 refine pw_loadk (by rfl) 30 _ rfl _ (2) rfl r1.r (.slice ab l.length c) rfl Try.isAgg30 ?_
 simp only [Act.put, pu]
 refine pw_mv (by rfl) rfl rfl ?_
 simp only [Act.put, pu]
 refine pw_callB (by rfl) 24 _ _ rfl Try.func24 (by kernel_rfl) #[.slice ab l.length c, .string ⟨x.toArray⟩] rfl _ (hB _ sb) ?_
 intro z3005 k
 simp only [Act.put, pu]
 replace r1 := k.row r1 (by simp <;> omega)
 replace hM := hM.on k (by simp <;> omega)
 replace hO := hO.below k.nil
 replace sb := sb.trans (k.below w.heap.size sb.size (by simp <;> omega))
 clear k
 refine pw_mv (by rfl) rfl rfl ?_
 simp only [Act.put, pu]
 refine pw_ext (by rfl) rfl rfl rfl ?_
 simp only [Act.put, pu]
 refine pw_ext (by rfl) rfl rfl rfl ?_
 simp only [Act.put, pu]
 refine pw_as (by rfl) rfl rfl ?_
 simp only [Act.put, pu]
 refine pw_as (by rfl) rfl rfl ?_
 simp only [Act.put, pu]
 refine pw_nil ?_
 (repeat ((fail_if_success with_reducible refine rg ?_); go_step))
 refine wp_region_pw ?_
 refine pw_mv (by rfl) rfl rfl ?_
 simp only [Act.put, pu]
 refine pw_nil ?_
 (repeat ((fail_if_success with_reducible refine rg ?_); go_step))
 refine wp_region_qw (by kernel_rfl) (by kernel_rfl) ?_
 refine qw_move (by rfl) rfl rfl ?_
 simp only [Act.put, pu]
 refine qw_value (by rfl) (.pointer (some ⟨g1, 0, none⟩)) (exec_nil _ rfl g1 (0) rfl) ?_
 simp only [Act.put, pu]
 refine qw_value (by rfl) (.pointer (some ⟨g1, 3, none⟩)) (exec_field 57 _ 3 rfl g1 0 rfl _ Try.underlying57 _ rfl 0 Try.sizeOf55) ?_
 simp only [Act.put, pu]
 refine qw_loadc (by rfl) 55 _ rfl _ (3) rfl r1 (.map (some mb)) rfl Try.isAgg55 ?_
 simp only [Act.put, pu]
 refine qw_move (by rfl) rfl rfl ?_
 simp only [Act.put, pu]
 refine qw_look (by rfl) 55 3 3 _ _ rfl rfl e rfl Try.underlying55 Try.underlying3 z_int hM ?_
 simp only [Act.put, pu]
 refine qw_move (by rfl) rfl rfl ?_
 simp only [Act.put, pu]
 refine qw_move (by rfl) rfl rfl ?_
 simp only [Act.put, pu]
 refine qw_callK (by rfl) 16 _ _ rfl Try.func16 (by kernel_rfl) #[.pointer (some ⟨g1, 0, none⟩), .int .i64 e] rfl _ (fun w' hb => hQ w' (below_on sb (Nat.le_refl _) hb)) ?_
 simp only [Act.put, pu]
 refine qw_value (by rfl) (.bool false) (exec_geq_i _ _ _ _ rfl (U e) (quo n m e) rfl rfl false (decide_eq_false (by omega))) ?_
 simp only [Act.put, pu]
 refine qw_nil ?_
 intro w9 hqb
 replace r1 := r1.belowAll hqb
 replace hM := hM.belowAll hqb
 replace hO := hO.belowAll hqb
 replace sb := below_on sb (Nat.le_refl _) hqb
 clear hqb
 obtain ⟨KV, hKV⟩ : ∃ KV : Value, KV = .slice ab l.length c := ⟨_, rfl⟩
 have nk : g1 ∉ KV.ownBlock.toList := by rw [hKV]; exact own_nin n1
 (repeat ((fail_if_success with_reducible refine rg ?_); go_step))
 refine wp_region_ot (by kernel_rfl) (fun z => Kept KV.ownBlock.toList w9 z) (fun _ _ h1 h2 => h1.trans (Kept.ofBelow h2) (by simp)) (Kept.refl _ _) [12] (.leaf [(0, false), (1, false), (2, false), (3, false), (4, false), (5, false), (6, false), (7, false), (10, false), (11, false), (8, true), (9, true), (12, true)]) ?_ (by kernel_rfl)
 show EW _ _ _ _ _ _ _ _
 refine ew_mv (by rfl) rfl rfl ?_
 simp only [Act.put, pu]
 refine ew_mv (by rfl) rfl rfl ?_
 simp only [Act.put, pu]
 refine ew_value (by rfl) (.pointer (some ⟨g1, 0, none⟩)) (exec_nil _ rfl g1 (0) rfl) ?_
 simp only [Act.put, pu]
 refine ew_value (by rfl) (.pointer (some ⟨g1, 2, none⟩)) (exec_field 57 _ 2 rfl g1 0 rfl _ Try.underlying57 _ rfl 0 Try.sizeOf30) ?_
 simp only [Act.put, pu]
 refine ew_loadk (by rfl) 30 _ rfl _ 2 rfl (fun _ hk => (hk.row r1 nk).r) (.slice ab l.length c) rfl Try.isAgg30 ?_
 simp only [Act.put, pu]
 refine ew_mv (by rfl) rfl rfl ?_
 simp only [Act.put, pu]
 refine ew_mv (by rfl) rfl rfl ?_
 simp only [Act.put, pu]
 refine ew_call (by rfl) 26 _ _ rfl Try.func26 (by kernel_rfl) #[.string ⟨x.toArray⟩] rfl _ (fun w' _ => hC w') ?_
 simp only [Act.put, pu]
 refine ew_value (by rfl) (.pointer (some ⟨g1, 0, none⟩)) (exec_nil _ rfl g1 (0) rfl) ?_
 simp only [Act.put, pu]
 refine ew_value (by rfl) (.pointer (some ⟨g1, 2, none⟩)) (exec_field 57 _ 2 rfl g1 0 rfl _ Try.underlying57 _ rfl 0 Try.sizeOf30) ?_
 simp only [Act.put, pu]
 refine ew_litr (by rfl) 30 9 1 _ rfl #[strV x] ie _ Try.underlying30 hie hze h11 h12 [(0, .string ⟨x.toArray⟩)] rfl hl1 ?_
 intro wa hqb gL wb nL rL hb
 have kb := below_on hqb (Nat.le_refl _) hb
 replace sb := below_on sb (Nat.le_refl _) kb
 replace r1 := r1.belowAll kb
 replace hM := hM.below kb
 have eL : (Value.slice ab l.length c).ownBlock ≠ some gL := own_new (hO.below hqb) nL
 replace hO := hO.below kb
 refine ⟨fun _ => (Kept.refl _ _).trans (Kept.ofBelow kb) (by simp), ?_⟩
 simp only [Act.put, pu]
 refine ew_callE (by rfl) 25 _ _ rfl Try.func25 (by kernel_rfl) #[.slice ab l.length c, .int .i64 (rk x l : Nat), .slice (some ⟨gL, 0, none⟩) 1 1] rfl ?_
 intro wc hqc
 refine (ins_any base _ l x gL 1 wc (hO.below hqc) (by omega) (Nat.le_trans hbase (Nat.le_trans sb.size hqc.size)) (rL.belowAll hqc) eL).mono ?_
 rintro _ wd ⟨kv, rfl, hO2, hk2, hp2⟩
 have hkk : Kept KV.ownBlock.toList wb wd := by rw [hKV]; exact (Kept.ofBelow hqc).more (by simp) |>.trans hk2 (fun g hg => .inl hg)
 have r12 := hkk.row r1 nk
 have hM2 := hkk.on' hM (by rw [hKV]; exact own_nin n2)
 have sk2 : Kept KV.ownBlock.toList w wd := ((Kept.ofBelow sb).more (by simp)).trans hkk (fun g hg => .inl hg)
 have hpl : kv.ownBlock = (Value.slice ab l.length c).ownBlock ∨ ∃ b, kv.ownBlock = some b ∧ w.heap.size ≤ b := hp2.imp id fun h => ⟨_, h, Nat.le_trans sb.size hqc.size⟩
 refine ⟨_, rfl, fun _ => (Kept.refl KV.ownBlock.toList w9).trans ((Kept.ofBelow kb).more (by simp) |>.trans hkk (fun g hg => .inl hg)) (fun g hg => .inl hg), ?_⟩
 simp only [Act.put, pu]
 obtain ⟨a2, c2, e2⟩ := own_shape hO2
 refine ew_putv (by rfl) 30 _ _ rfl g1 2 rfl r12 kv rfl (one_v1 e2).1 (one_v1 e2).2.1 size_strs (by rw [sxC_size]; omega) (sxC n m kv (.map (some mb))) rfl ?_
 intro we hqe wf r13 k13
 have nkg : ∀ b, kv.ownBlock = some b → b ∉ [g1] := own_ne1 (by
  rcases hp2 with h | h
  ·rw [h]; exact n1
  ·rw [h]; intro e3; have e4 := Option.some.inj e3; have := r1.lt; have := hqc.size; omega)
 refine ⟨fun h => (by cases h), ?_⟩
 simp only [Act.put]
 have hO3 := (hO2.below hqe).on k13 nkg
 have hM3 := (hM2.below hqe).on k13 (by simp; exact fun e3 => hgm e3.symm)
 have sk3 : Kept (g1 :: KV.ownBlock.toList) w wf := (((sk2.more (fun g hg => List.mem_cons_of_mem _ hg)).trans (Kept.ofBelow hqe) (by simp)).trans k13 (fun g hg => .inl (by rw [List.mem_singleton.1 hg]; exact List.mem_cons_self ..)))
 refine ew_nil ?_
 intro wg hqg
 replace hO3 := hO3.below hqg
 replace hM3 := hM3.below hqg
 replace r13 := r13.belowAll hqg
 replace sk3 := sk3.trans (Kept.ofBelow hqg) (by simp)
 clear r1 hO hM sb r12 hM2 sk2 k13 hqg hqe hkk hO2 hk2 rL kb hqb hb hqc hQ hC hB hE hY
 have nkm : ∀ b, kv.ownBlock = some b → b ∉ [mb] := own_ne1 (by
  rcases hpl with h | ⟨b, h, h5⟩
  ·rw [h]; exact n2
  ·rw [h]; intro e3; have e4 := Option.some.inj e3; omega)
 (repeat ((fail_if_success with_reducible refine rg ?_); go_step))
 refine wp_region_pw ?_
 refine pw_mv (by rfl) rfl rfl ?_
 simp only [Act.put, pu]
 refine pw_value (by rfl) (.pointer (some ⟨g1, 0, none⟩)) (exec_nil _ rfl g1 (0) rfl) ?_
 simp only [Act.put, pu]
 refine pw_value (by rfl) (.pointer (some ⟨g1, 3, none⟩)) (exec_field 57 _ 3 rfl g1 0 rfl _ Try.underlying57 _ rfl 0 Try.sizeOf55) ?_
 simp only [Act.put, pu]
 refine pw_loadk (by rfl) 55 _ rfl _ (3) rfl r13.r (.map (some mb)) rfl Try.isAgg55 ?_
 simp only [Act.put, pu]
 refine pw_mv (by rfl) rfl rfl ?_
 simp only [Act.put, pu]
 refine pw_look (by rfl) 55 3 3 _ _ rfl rfl e rfl Try.underlying55 Try.underlying3 z_int hM3 ?_
 simp only [Act.put, pu]
 refine pw_value (by rfl) (.int .i64 (U e + 1)) (x_addz _ _ _ _ rfl (U e) 1 (U e + 1) rfl rfl rfl (by omega) (by omega)) ?_
 simp only [Act.put, pu]
 refine pw_mput (by rfl) 55 3 3 _ _ _ rfl rfl e rfl (U e + 1) rfl Try.underlying55 Try.underlying3 hM3 ?_
 intro z9007 hM4 k9
 simp only [Act.put]
 replace r13 := k9.row r13 (by simp; exact hgm)
 replace hO3 := hO3.on k9 nkm
 have sk4 : Kept (g1 :: mb :: KV.ownBlock.toList) w z9007 := (sk3.more (by simp; exact fun a ha => .inr (.inr ha))).trans k9 (by simp)
 refine pw_nil ?_
 (repeat ((fail_if_success with_reducible refine rg ?_); go_step))
 refine wp_region_pw ?_
 refine pw_mv (by rfl) rfl rfl ?_
 simp only [Act.put, pu]
 refine pw_as (by rfl) rfl rfl ?_
 simp only [Act.put, pu]
 refine pw_value (by rfl) (.bool true) (fun _ => rfl) ?_
 simp only [Act.put, pu]
 refine pw_value (by rfl) (.int .i64 0) (fun _ => rfl) ?_
 simp only [Act.put, pu]
 refine pw_nil ?_
 go_wp2
 go_ret3
 rw [hKV] at sk4
 exact ⟨kv, rfl, r13, hO3, hM4, sk4, hpl⟩
end Go.Proofs.Ytchiiphmpkmloaa
