/- A strings.Builder's WriteByte, WriteString and String: at this program, by the library's contracts. -/
import Derived.Shelf.Strings.Builder1
import Derived.Shelf.Strings.Builder2
import Derived.Test.YtojobffihlmfgaaGA
import Derived.Test.YtojobffihlmfgaaCO
import Derived.Test.YtojobffihlmfgaaWeFun
import Derived.Test.YtojobffihlmfgaaBT
import Derived.Test.YtojobffihlmfgaaPX
import Derived.Test.YtojobffihlmfgaaMQ
import Derived.Test.YtojobffihlmfgaaTA
import Derived.Test.YtojobffihlmfgaaGU
namespace Go.Proofs.Ytojobffihlmfgaa
open Go.Shelf Go.RowKit
def bu_ren : Go.Shelf.Ren := ⟨fun | 166 => 53 | 167 => 51 | 169 => 56 | 240 => 70 | 276 => 73 | n => n, fun | 0 => 0 | 70 => 80 | 3 => 3 | 4 => 4 | 5 => 5 | 9 => 9 | 20 => 20 | 72 => 83 | 37 => 81 | 75 => 85 | 76 => 88 | 127 => 103 | 164 => 104 | 80 => 91 | n => n, fun | n => n⟩
theorem bu166 : Go.Proofs.Lays.n166 Try.prog bu_ren := {
 mixed := by kernel_rfl
 f166 := Try.func53.trans (congrArg some (by kernel_rfl))
 f240 := Try.func70.trans (congrArg some (by kernel_rfl))
 f276 := Try.func73.trans (congrArg some (by kernel_rfl))
 t0 := Try.underlying0
 a0 := Try.isAgg0
 z0 := Try.sizeOf0
 v0 := Try.zeroValue0
 t3 := Try.underlying3
 a3 := Try.isAgg3
 z3 := Try.sizeOf3
 v3 := Try.zeroValue3
 t4 := Try.underlying4
 a4 := Try.isAgg4
 z4 := Try.sizeOf4
 v4 := Try.zeroValue4
 t9 := Try.underlying9
 a9 := Try.isAgg9
 z9 := Try.sizeOf9
 v9 := Try.zeroValue9
 t20 := Try.underlying20
 a20 := Try.isAgg20
 z20 := Try.sizeOf20
 v20 := Try.zeroValue20
 t37 := Try.underlying81
 a37 := Try.isAgg81
 z37 := Try.sizeOf81
 v37 := Try.zeroValue81
 t70 := Try.underlying80
 a70 := Try.isAgg80
 z70 := Try.sizeOf80
 v70 := Try.zeroValue80
 t72 := Try.underlying83
 a72 := Try.isAgg83
 z72 := Try.sizeOf83
 v72 := Try.zeroValue83
 t75 := Try.underlying85
 a75 := Try.isAgg85
 z75 := Try.sizeOf85
 v75 := Try.zeroValue85
 t164 := Try.underlying104
 a164 := Try.isAgg104
 z164 := Try.sizeOf104
 v164 := Try.zeroValue104 }
theorem bu167 : Go.Proofs.Lays.n167 Try.prog bu_ren := {
 mixed := by kernel_rfl
 f167 := Try.func51.trans (congrArg some (by kernel_rfl))
 f240 := Try.func70.trans (congrArg some (by kernel_rfl))
 f276 := Try.func73.trans (congrArg some (by kernel_rfl))
 t0 := Try.underlying0
 a0 := Try.isAgg0
 z0 := Try.sizeOf0
 v0 := Try.zeroValue0
 t4 := Try.underlying4
 a4 := Try.isAgg4
 z4 := Try.sizeOf4
 v4 := Try.zeroValue4
 t5 := Try.underlying5
 a5 := Try.isAgg5
 z5 := Try.sizeOf5
 v5 := Try.zeroValue5
 t9 := Try.underlying9
 a9 := Try.isAgg9
 z9 := Try.sizeOf9
 v9 := Try.zeroValue9
 t20 := Try.underlying20
 a20 := Try.isAgg20
 z20 := Try.sizeOf20
 v20 := Try.zeroValue20
 t37 := Try.underlying81
 a37 := Try.isAgg81
 z37 := Try.sizeOf81
 v37 := Try.zeroValue81
 t70 := Try.underlying80
 a70 := Try.isAgg80
 z70 := Try.sizeOf80
 v70 := Try.zeroValue80
 t72 := Try.underlying83
 a72 := Try.isAgg83
 z72 := Try.sizeOf83
 v72 := Try.zeroValue83
 t75 := Try.underlying85
 a75 := Try.isAgg85
 z75 := Try.sizeOf85
 v75 := Try.zeroValue85
 t164 := Try.underlying104
 a164 := Try.isAgg104
 z164 := Try.sizeOf104
 v164 := Try.zeroValue104 }
theorem bu169 : Go.Proofs.Lays.n169 Try.prog bu_ren := {
 mixed := by kernel_rfl
 f169 := Try.func56.trans (congrArg some (by kernel_rfl))
 t0 := Try.underlying0
 a0 := Try.isAgg0
 z0 := Try.sizeOf0
 v0 := Try.zeroValue0
 t3 := Try.underlying3
 a3 := Try.isAgg3
 z3 := Try.sizeOf3
 v3 := Try.zeroValue3
 t9 := Try.underlying9
 a9 := Try.isAgg9
 z9 := Try.sizeOf9
 v9 := Try.zeroValue9
 t37 := Try.underlying81
 a37 := Try.isAgg81
 z37 := Try.sizeOf81
 v37 := Try.zeroValue81
 t70 := Try.underlying80
 a70 := Try.isAgg80
 z70 := Try.sizeOf80
 v70 := Try.zeroValue80
 t72 := Try.underlying83
 a72 := Try.isAgg83
 z72 := Try.sizeOf83
 v72 := Try.zeroValue83
 t127 := Try.underlying103
 a127 := Try.isAgg103
 z127 := Try.sizeOf103
 v127 := Try.zeroValue103 }
theorem bu_x : Builder.Extra Try.prog bu_ren := {
 sizeBuilder := by kernel_rfl
 liesBuilder := by kernel_rfl
 t5 := Try.underlying5
 a5 := Try.isAgg5
 z5 := Try.sizeOf5
 v5 := Try.zeroValue5
 infoByte := by kernel_rfl
 cellsByte := by kernel_rfl
 sizeByte := by kernel_rfl
 neB5 := by decide }
/-- A builder of the call's own, and its bytes. -/
def BuAt (w : World) (B b : Nat) (l : List UInt8) : Prop := Lib.IsBuilder 83 5 B b (Lib.byteCells l) w
theorem bu_below {B g0 : Nat} {p : Value} {bs : List Value} {w w' : World} (h : Lib.BuilderAt 83 5 B g0 p bs w) (hb : Below w.heap.size w w') : Lib.BuilderAt 83 5 B g0 p bs w' := by
 obtain ⟨hB, v, hbk, hown, hne⟩ := h
 refine ⟨hB, v, (hb.block g0 (Array.getElem?_eq_some_iff.1 hbk).1).trans hbk, ?_, hne⟩
 exact hown.kept (row := none) ⟨hb.os, hb.tape, hb.output, hb.size, fun k hk _ => hb.block k hk⟩ (by cases v.ownBlock <;> simp)
theorem BuAt.below {B b : Nat} {l : List UInt8} {w w' : World} (h : BuAt w B b l) (hb : Below w.heap.size w w') : BuAt w' B b l := h.imp (fun h => bu_below h hb) (fun h => bu_below h hb)
theorem BuAt.fresh {B b : Nat} {w : World} (hB : B ≤ b) (h : Row w b #[.pointer none, .slice none 0 0] 83) : BuAt w B b [] :=
 Or.inl ⟨hB, .slice none 0 0, h, World.ownsRow_nil _ _ _ _, by simp [Value.ownBlock]⟩
theorem wstr_any (B b : Nat) (l s : List UInt8) (w : World) (h : BuAt w B b l) (hlen : l.length + s.length ≤ 100000) (hBw : B ≤ w.heap.size) :
  Calls Try.prog 53 #[.pointer (some ⟨b, 0, none⟩), .string ⟨s.toArray⟩] w fun e w' => e = .returned (.tuple #[.int .i64 s.length, .nilIface]) ∧ BuAt w' B b (l ++ s) ∧ Below B w w' := by
 have hs : (⟨s.toArray⟩ : ByteArray).size = s.length := by simp [ByteArray.size]
 have h1 := Any.Builder_WriteString bu166 bu_x B b (Lib.byteCells l) ⟨s.toArray⟩ w h (by rw [Lib.byteCells_length, hs]; omega) hBw
 rw [hs] at h1
 refine h1.mono fun e w' ⟨he, hb, hl⟩ => ⟨he, .inr ?_, hl⟩
 have e2 : Lib.byteCells l ++ Lib.strCells ⟨s.toArray⟩ = Lib.byteCells (l ++ s) := by simp [Lib.byteCells, Lib.strCells]
 rw [← e2]
 exact hb
theorem bstr_any (B b : Nat) (l : List UInt8) (w : World) (h : BuAt w B b l) (hBw : B ≤ w.heap.size) :
  Calls Try.prog 56 #[.pointer (some ⟨b, 0, none⟩)] w fun e w' => e = .returned (.string ⟨l.toArray⟩) ∧ Below B w w' := Any.Builder_String_any bu169 bu_x B b l w h hBw
theorem wbyt_any (B b c : Nat) (l : List UInt8) (w : World) (h : BuAt w B b l) (hc : c < 256) (hlen : l.length + 1 ≤ 100000) (hBw : B ≤ w.heap.size) :
  Calls Try.prog 51 #[.pointer (some ⟨b, 0, none⟩), .int .u8 c] w fun e w' => e = .returned .nilIface ∧ BuAt w' B b (l ++ [UInt8.ofNat c]) ∧ Below B w w' := by
 have h1 := Any.Builder_WriteByte bu167 bu_x B b (Lib.byteCells l) c w h (by rw [Lib.byteCells_length]; omega) hBw
 refine h1.mono fun e w' ⟨he, hb, hl⟩ => ⟨he, .inr ?_, hl⟩
 have e2 : Lib.byteCells l ++ [Value.int .u8 c] = Lib.byteCells (l ++ [UInt8.ofNat c]) := by
  simp [Lib.byteCells, Nat.mod_eq_of_lt hc]
 rw [← e2]
 exact hb
end Go.Proofs.Ytojobffihlmfgaa
/- matrix's areLiars, areCounts, allRows, told, isGroup, isToBePut, Bytes. -/
namespace Go.Proofs.Ytojobffihlmfgaa
open Go.RowKit
set_option linter.unusedVariables false
set_option linter.unusedSectionVars false
set_option linter.unusedSimpArgs false
theorem sl_mx : Try.prog.underlying 26 = some (.slice (Try.prog.elem 26)) := by kernel_rfl
theorem zero_bux (w : World) : (zeroValue 83).run Try.prog w = .ok (.agg #[.pointer none, .slice none 0 0]) w := by kernel_rfl
/-- Whether so many servers may lie. -/
def lrB (t : Int) : Bool := decide (1 ≤ t) && decide (t ≤ 2)
/-- Whether a matrix of so many rows and columns is to be put. -/
def ccB (r c : Int) : Bool := decide (1 ≤ r) && decide (r ≤ 25) && decide (1 ≤ c) && decide (c ≤ 7)
/-- Whether a matrix of rows that are so long is to be put. -/
def tbB (n : Nat) (N : Nat → Nat) : Bool := ccB n (N 0) && !anB (fun k => !decide ((N k : Int) = N 0)) n
set_option maxRecDepth 100000 in
set_option maxHeartbeats 2000000 in
theorem counts_core (r c : Int) (b1 b2 b3 b4 : Bool) (w : World) (h1 : decide (1 ≤ r) = b1) (h2 : decide (r ≤ 25) = b2) (h3 : decide (1 ≤ c) = b3) (h4 : decide (c ≤ 7) = b4) :
  Calls Try.prog 58 #[.int .i64 r, .int .i64 c] w fun e w' => e = .returned (.bool (b1 && b2 && b3 && b4)) ∧ Below w.heap.size w w' := by
 cases b1
 ·show Calls _ _ _ _ fun e w' => e = .returned (.bool false) ∧ _
  go_enter Try.func58, Try.ntmps58
  have sb := sbmk w
  (repeat ((fail_if_success with_reducible refine rg ?_); go_step))
  refine wp_region_pw ?_
  refine pw_value (by rfl) (.bool false) (fun _ => rfl) ?_
  simp only [Act.put, pu]
  refine pw_nil ?_
  (repeat ((fail_if_success with_reducible refine rg ?_); go_step))
  refine wp_region_pw ?_
  refine pw_mv (by rfl) rfl rfl ?_
  simp only [Act.put, pu]
  refine pw_value (by rfl) (.bool false) (exec_geq_i _ _ _ _ rfl (r) (1) rfl rfl false h1) ?_
  simp only [Act.put, pu]
  refine pw_mv (by rfl) rfl rfl ?_
  simp only [Act.put, pu]
  refine pw_skip (by rfl) ?_
  simp only [Act.put, pu]
  refine pw_skip (by rfl) ?_
  simp only [Act.put, pu]
  refine pw_pick (by rfl) false (v := .bool false) rfl rfl rfl ?_
  simp only [Act.put, pu]
  refine pw_mv (by rfl) rfl rfl ?_
  simp only [Act.put, pu]
  refine pw_skip (by rfl) ?_
  simp only [Act.put, pu]
  refine pw_skip (by rfl) ?_
  simp only [Act.put, pu]
  refine pw_pick (by rfl) false (v := .bool false) rfl rfl rfl ?_
  simp only [Act.put, pu]
  refine pw_mv (by rfl) rfl rfl ?_
  simp only [Act.put, pu]
  refine pw_skip (by rfl) ?_
  simp only [Act.put, pu]
  refine pw_skip (by rfl) ?_
  simp only [Act.put, pu]
  refine pw_pick (by rfl) false (v := .bool false) rfl rfl rfl ?_
  simp only [Act.put, pu]
  refine pw_as (by rfl) rfl rfl ?_
  simp only [Act.put, pu]
  refine pw_nil ?_
  go_wp2
  go_ret
  exact ⟨rfl, sb⟩
 ·cases b2
  ·show Calls _ _ _ _ fun e w' => e = .returned (.bool false) ∧ _
   go_enter Try.func58, Try.ntmps58
   have sb := sbmk w
   (repeat ((fail_if_success with_reducible refine rg ?_); go_step))
   refine wp_region_pw ?_
   refine pw_value (by rfl) (.bool false) (fun _ => rfl) ?_
   simp only [Act.put, pu]
   refine pw_nil ?_
   (repeat ((fail_if_success with_reducible refine rg ?_); go_step))
   refine wp_region_pw ?_
   refine pw_mv (by rfl) rfl rfl ?_
   simp only [Act.put, pu]
   refine pw_value (by rfl) (.bool true) (exec_geq_i _ _ _ _ rfl (r) (1) rfl rfl true h1) ?_
   simp only [Act.put, pu]
   refine pw_mv (by rfl) rfl rfl ?_
   simp only [Act.put, pu]
   refine pw_mv (by rfl) rfl rfl ?_
   simp only [Act.put, pu]
   refine pw_value (by rfl) (.bool false) (exec_leq_i _ _ _ _ rfl (r) (25) rfl rfl false h2) ?_
   simp only [Act.put, pu]
   refine pw_pick (by rfl) true (v := .bool false) rfl rfl rfl ?_
   simp only [Act.put, pu]
   refine pw_mv (by rfl) rfl rfl ?_
   simp only [Act.put, pu]
   refine pw_skip (by rfl) ?_
   simp only [Act.put, pu]
   refine pw_skip (by rfl) ?_
   simp only [Act.put, pu]
   refine pw_pick (by rfl) false (v := .bool false) rfl rfl rfl ?_
   simp only [Act.put, pu]
   refine pw_mv (by rfl) rfl rfl ?_
   simp only [Act.put, pu]
   refine pw_skip (by rfl) ?_
   simp only [Act.put, pu]
   refine pw_skip (by rfl) ?_
   simp only [Act.put, pu]
   refine pw_pick (by rfl) false (v := .bool false) rfl rfl rfl ?_
   simp only [Act.put, pu]
   refine pw_as (by rfl) rfl rfl ?_
   simp only [Act.put, pu]
   refine pw_nil ?_
   go_wp2
   go_ret
   exact ⟨rfl, sb⟩
  ·cases b3
   ·show Calls _ _ _ _ fun e w' => e = .returned (.bool false) ∧ _
    go_enter Try.func58, Try.ntmps58
    have sb := sbmk w
    (repeat ((fail_if_success with_reducible refine rg ?_); go_step))
    refine wp_region_pw ?_
    refine pw_value (by rfl) (.bool false) (fun _ => rfl) ?_
    simp only [Act.put, pu]
    refine pw_nil ?_
    (repeat ((fail_if_success with_reducible refine rg ?_); go_step))
    refine wp_region_pw ?_
    refine pw_mv (by rfl) rfl rfl ?_
    simp only [Act.put, pu]
    refine pw_value (by rfl) (.bool true) (exec_geq_i _ _ _ _ rfl (r) (1) rfl rfl true h1) ?_
    simp only [Act.put, pu]
    refine pw_mv (by rfl) rfl rfl ?_
    simp only [Act.put, pu]
    refine pw_mv (by rfl) rfl rfl ?_
    simp only [Act.put, pu]
    refine pw_value (by rfl) (.bool true) (exec_leq_i _ _ _ _ rfl (r) (25) rfl rfl true h2) ?_
    simp only [Act.put, pu]
    refine pw_pick (by rfl) true (v := .bool true) rfl rfl rfl ?_
    simp only [Act.put, pu]
    refine pw_mv (by rfl) rfl rfl ?_
    simp only [Act.put, pu]
    refine pw_mv (by rfl) rfl rfl ?_
    simp only [Act.put, pu]
    refine pw_value (by rfl) (.bool false) (exec_geq_i _ _ _ _ rfl (c) (1) rfl rfl false h3) ?_
    simp only [Act.put, pu]
    refine pw_pick (by rfl) true (v := .bool false) rfl rfl rfl ?_
    simp only [Act.put, pu]
    refine pw_mv (by rfl) rfl rfl ?_
    simp only [Act.put, pu]
    refine pw_skip (by rfl) ?_
    simp only [Act.put, pu]
    refine pw_skip (by rfl) ?_
    simp only [Act.put, pu]
    refine pw_pick (by rfl) false (v := .bool false) rfl rfl rfl ?_
    simp only [Act.put, pu]
    refine pw_as (by rfl) rfl rfl ?_
    simp only [Act.put, pu]
    refine pw_nil ?_
    go_wp2
    go_ret
    exact ⟨rfl, sb⟩
   ·show Calls _ _ _ _ fun e w' => e = .returned (.bool b4) ∧ _
    go_enter Try.func58, Try.ntmps58
    have sb := sbmk w
    (repeat ((fail_if_success with_reducible refine rg ?_); go_step))
    refine wp_region_pw ?_
    refine pw_value (by rfl) (.bool false) (fun _ => rfl) ?_
    simp only [Act.put, pu]
    refine pw_nil ?_
    (repeat ((fail_if_success with_reducible refine rg ?_); go_step))
    refine wp_region_pw ?_
    refine pw_mv (by rfl) rfl rfl ?_
    simp only [Act.put, pu]
    refine pw_value (by rfl) (.bool true) (exec_geq_i _ _ _ _ rfl (r) (1) rfl rfl true h1) ?_
    simp only [Act.put, pu]
    refine pw_mv (by rfl) rfl rfl ?_
    simp only [Act.put, pu]
    refine pw_mv (by rfl) rfl rfl ?_
    simp only [Act.put, pu]
    refine pw_value (by rfl) (.bool true) (exec_leq_i _ _ _ _ rfl (r) (25) rfl rfl true h2) ?_
    simp only [Act.put, pu]
    refine pw_pick (by rfl) true (v := .bool true) rfl rfl rfl ?_
    simp only [Act.put, pu]
    refine pw_mv (by rfl) rfl rfl ?_
    simp only [Act.put, pu]
    refine pw_mv (by rfl) rfl rfl ?_
    simp only [Act.put, pu]
    refine pw_value (by rfl) (.bool true) (exec_geq_i _ _ _ _ rfl (c) (1) rfl rfl true h3) ?_
    simp only [Act.put, pu]
    refine pw_pick (by rfl) true (v := .bool true) rfl rfl rfl ?_
    simp only [Act.put, pu]
    refine pw_mv (by rfl) rfl rfl ?_
    simp only [Act.put, pu]
    refine pw_mv (by rfl) rfl rfl ?_
    simp only [Act.put, pu]
    refine pw_value (by rfl) (.bool b4) (exec_leq_i _ _ _ _ rfl (c) (7) rfl rfl b4 h4) ?_
    simp only [Act.put, pu]
    refine pw_pick (by rfl) true (v := .bool b4) rfl rfl rfl ?_
    simp only [Act.put, pu]
    refine pw_as (by rfl) rfl rfl ?_
    simp only [Act.put, pu]
    refine pw_nil ?_
    go_wp2
    go_ret
    exact ⟨rfl, sb⟩
theorem counts_any (r c : Int) (w : World) : Calls Try.prog 58 #[.int .i64 r, .int .i64 c] w fun e w' => e = .returned (.bool (ccB r c)) ∧ Below w.heap.size w w' := counts_core r c _ _ _ _ w rfl rfl rfl rfl
set_option maxRecDepth 100000 in
set_option maxHeartbeats 2000000 in
theorem arows_any {fn : Func} (ab : Option Addr) (n c : Nat) (f : FuncId) (caps : Array Value) (B : Nat → Bool) (w : World) (hf : Try.prog.funcs[f]? = some fn) (hb0 : (fn.name == "runtime.NumGoroutine" || fn.body.isNone) = false) (hn : n < 4611686018427387904)
  (hc : ∀ k : Nat, k < n → ∀ w', Below w.heap.size w w' → Calls Try.prog f (#[.int .i64 k] ++ caps) w' fun e w2 => e = .returned (.bool (B k)) ∧ Below w'.heap.size w' w2) :
  Calls Try.prog 74 #[.slice ab n c, .func (.func f) #[] caps] w fun e w' => e = .returned (.bool (!anB (fun k => !B k) n)) ∧ Below w.heap.size w w' := by
 go_enter Try.func74, Try.ntmps74
 have sb := sbmk w
 (repeat ((fail_if_success with_reducible refine rg ?_); go_step))
 refine wp_region_pw ?_
 refine pw_value (by rfl) (.bool false) (fun _ => rfl) ?_
 simp only [Act.put, pu]
 refine pw_nil ?_
 (repeat ((fail_if_success with_reducible refine rg ?_); go_step))
 refine wp_region_pw ?_
 refine pw_mv (by rfl) rfl rfl ?_
 simp only [Act.put, pu]
 refine pw_value (by rfl) (.int .i64 n) (exec_len_s 26 _ rfl (ab) (n) (c) rfl sl_mx) ?_
 simp only [Act.put, pu]
 refine pw_value (by rfl) (.int .i64 0) (fun _ => rfl) ?_
 simp only [Act.put, pu]
 refine pw_nil ?_
 go_wp2_with fail
 go_loopg [5, 8] n (fun x s5 s8 wr => ∃ k : Nat, k + x = n ∧ s8 = .int .i64 k ∧ anB (fun k => !B k) k = false ∧ Below w.heap.size w wr)
 case atStart => exact ⟨0, by omega, rfl, rfl, sb⟩
 case round =>
  clear sb
  obtain ⟨k, hk, rfl, han, sb⟩ := hrel
  cases gk with
  | zero =>
   obtain rfl : k = n := by omega
   have HF : Hid (anB (fun k => !B k) k = false) := han
   clear hk hc han
   (repeat ((fail_if_success with_reducible refine rg ?_); go_step))
   refine wp_region_pw ?_
   refine pw_value (by rfl) (.bool false) (exec_lt_b _ _ _ _ rfl k k rfl rfl false (decide_eq_false (Int.lt_irrefl _))) ?_
   simp only [Act.put, pu]
   refine pw_nil ?_
   (repeat ((fail_if_success with_reducible refine rg ?_); go_step))
   refine wp_region_pw ?_
   refine pw_value (by rfl) (.bool true) (fun _ => rfl) ?_
   simp only [Act.put, pu]
   refine pw_nil ?_
   go_wp2
   go_ret
   exact ⟨by rw [HF.out]; rfl, sb⟩
  | succ x =>
   have hlt : k < n := by omega
   have hck := hc k hlt
   clear hc
   cases hBk : B k with
   | true =>
    have hnx : anB (fun k => !B k) (k + 1) = false := by
     show (anB (fun k => !B k) k || !B k) = false
     rw [han, hBk]; rfl
    rw [hBk] at hck
    (repeat ((fail_if_success with_reducible refine rg ?_); go_step))
    refine wp_region_pw ?_
    refine pw_value (by rfl) (.bool true) (exec_lt_b _ _ _ _ rfl k n rfl rfl true (decide_eq_true (by omega))) ?_
    simp only [Act.put, pu]
    refine pw_nil ?_
    (repeat ((fail_if_success with_reducible refine rg ?_); go_step))
    refine wp_region_pw ?_
    refine pw_mv (by rfl) rfl rfl ?_
    simp only [Act.put, pu]
    refine pw_as (by rfl) rfl rfl ?_
    simp only [Act.put, pu]
    refine pw_nil ?_
    (repeat ((fail_if_success with_reducible refine rg ?_); go_step))
    refine wp_region_pw ?_
    refine pw_mv (by rfl) rfl rfl ?_
    simp only [Act.put, pu]
    refine pw_mv (by rfl) rfl rfl ?_
    simp only [Act.put, pu]
    refine pw_callC (by rfl) (f) _ _ _ rfl (caps) rfl (hf) (hb0) #[.int .i64 (k : Nat)] rfl _ (hck _ sb) ?_
    intro z4002 k
    simp only [Act.put, pu]
    replace sb := sb.trans (k.below w.heap.size sb.size (by simp <;> omega))
    clear k
    refine pw_value (by rfl) (.bool false) (exec_not _ _ rfl true rfl) ?_
    simp only [Act.put, pu]
    refine pw_nil ?_
    (repeat ((fail_if_success with_reducible refine rg ?_); go_step))
    refine wp_region_pw ?_
    refine pw_value (by rfl) (.int .i64 ((k + 1 : Nat) : Int)) (exec_add_in _ _ _ _ rfl k 1 rfl rfl (by omega)) ?_
    simp only [Act.put, pu]
    refine pw_mv (by rfl) rfl rfl ?_
    simp only [Act.put, pu]
    refine pw_nil ?_
    go_wp2
    go_roundg x
    case measure => omega
    case rel => exact ⟨k + 1, by omega, rfl, hnx, sb⟩
   | false =>
    have HF : Hid (anB (fun k => !B k) n = true) := (anB_iff (fun k => !B k) n).2 ⟨k, hlt, by show (!B k) = true; rw [hBk]; rfl⟩
    rw [hBk] at hck
    (repeat ((fail_if_success with_reducible refine rg ?_); go_step))
    refine wp_region_pw ?_
    refine pw_value (by rfl) (.bool true) (exec_lt_b _ _ _ _ rfl k n rfl rfl true (decide_eq_true (by omega))) ?_
    simp only [Act.put, pu]
    refine pw_nil ?_
    (repeat ((fail_if_success with_reducible refine rg ?_); go_step))
    refine wp_region_pw ?_
    refine pw_mv (by rfl) rfl rfl ?_
    simp only [Act.put, pu]
    refine pw_as (by rfl) rfl rfl ?_
    simp only [Act.put, pu]
    refine pw_nil ?_
    (repeat ((fail_if_success with_reducible refine rg ?_); go_step))
    refine wp_region_pw ?_
    refine pw_mv (by rfl) rfl rfl ?_
    simp only [Act.put, pu]
    refine pw_mv (by rfl) rfl rfl ?_
    simp only [Act.put, pu]
    refine pw_callC (by rfl) (f) _ _ _ rfl (caps) rfl (hf) (hb0) #[.int .i64 (k : Nat)] rfl _ (hck _ sb) ?_
    intro z4002 k
    simp only [Act.put, pu]
    replace sb := sb.trans (k.below w.heap.size sb.size (by simp <;> omega))
    clear k
    refine pw_value (by rfl) (.bool true) (exec_not _ _ rfl false rfl) ?_
    simp only [Act.put, pu]
    refine pw_nil ?_
    (repeat ((fail_if_success with_reducible refine rg ?_); go_step))
    refine wp_region_pw ?_
    refine pw_value (by rfl) (.bool false) (fun _ => rfl) ?_
    simp only [Act.put, pu]
    refine pw_nil ?_
    go_wp2
    go_ret
    exact ⟨by rw [HF.out]; rfl, sb⟩
set_option maxRecDepth 100000 in
set_option maxHeartbeats 2000000 in
theorem tbp1_any (ab : Option Addr) (n c : Nat) (S : Nat → Value) (gb ob : Nat) (bcs : Array Value) (tb : TypeId) (a0 ai : Option Addr) (k nk ck n0 c0 g1 : Nat) (w : World) (hk : k < n) (hS0 : S 0 = .slice a0 n0 c0) (hSk : S k = .slice ai nk ck) (r1 : Row w g1 #[.slice ab n c] 26) (hna : VsAt w ab n S gb ob bcs tb) :
  Calls Try.prog 75 #[.int .i64 k, .pointer (some ⟨g1, 0, none⟩)] w fun e w' => e = .returned (.bool (decide ((nk : Int) = n0))) ∧ Below w.heap.size w w' := by
 obtain ⟨B, hB⟩ : ∃ B, decide ((nk : Int) = n0) = B := ⟨_, rfl⟩
 rw [hB]
 obtain h0 | ⟨rfl, rB, hbt⟩ := hna.at'
 ·exact absurd h0 (by omega)
 have hbk := hbt k hk
 have hb0 := hbt 0 (by omega)
 rw [hSk] at hbk
 rw [hS0] at hb0
 clear hbt hna
 go_enter Try.func75, Try.ntmps75
 have sb := sbmk w
 (repeat ((fail_if_success with_reducible refine rg ?_); go_step))
 refine wp_region_pw ?_
 refine pw_value (by rfl) (.bool false) (fun _ => rfl) ?_
 simp only [Act.put, pu]
 refine pw_nil ?_
 (repeat ((fail_if_success with_reducible refine rg ?_); go_step))
 refine wp_region_qw (by kernel_rfl) (by kernel_rfl) ?_
 refine qw_loadc (by rfl) 26 _ rfl _ (0) rfl r1 (.slice (some ⟨gb, ob, none⟩) n c) rfl Try.isAgg26 ?_
 simp only [Act.put, pu]
 refine qw_move (by rfl) rfl rfl ?_
 simp only [Act.put, pu]
 refine qw_value (by rfl) (.pointer (some ⟨gb, ob + k * 1, none⟩)) ((exec_index_s 26 _ _ rfl (gb) (ob) (n) (c) rfl (k) rfl (hk) _ Try.underlying26 1 Try.sizeOf27)) ?_
 simp only [Act.put, pu]
 refine qw_loadcR (by rfl) 27 _ rfl _ (ob + k * 1) rfl rB (.slice ai nk ck) hbk Try.isAgg27 ?_
 simp only [Act.put, pu]
 refine qw_value (by rfl) (.int .i64 nk) (exec_len_s 27 _ rfl (ai) (nk) (ck) rfl sl_natsX) ?_
 simp only [Act.put, pu]
 refine qw_loadc (by rfl) 26 _ rfl _ (0) rfl r1 (.slice (some ⟨gb, ob, none⟩) n c) rfl Try.isAgg26 ?_
 simp only [Act.put, pu]
 refine qw_value (by rfl) (.pointer (some ⟨gb, ob + 0 * 1, none⟩)) ((exec_index_s 26 _ _ rfl (gb) (ob) (n) (c) rfl (0) rfl (by omega) _ Try.underlying26 1 Try.sizeOf27)) ?_
 simp only [Act.put, pu]
 refine qw_loadcR (by rfl) 27 _ rfl _ (ob + 0 * 1) rfl rB (.slice a0 n0 c0) hb0 Try.isAgg27 ?_
 simp only [Act.put, pu]
 refine qw_value (by rfl) (.int .i64 n0) (exec_len_s 27 _ rfl (a0) (n0) (c0) rfl sl_natsX) ?_
 simp only [Act.put, pu]
 refine qw_value (by rfl) (.bool B) (exec_eql_k .i64 _ _ _ _ rfl nk n0 rfl rfl B hB) ?_
 simp only [Act.put, pu]
 refine qw_asg (by rfl) rfl rfl ?_
 simp only [Act.put, pu]
 refine qw_nil ?_
 intro w3 hqb
 replace sb := below_on sb (Nat.le_refl _) hqb
 clear hqb
 go_wp2
 go_ret
 exact ⟨rfl, sb⟩
set_option maxRecDepth 100000 in
set_option maxHeartbeats 2000000 in
theorem tbp_any (ab : Option Addr) (n c : Nat) (S : Nat → Value) (gb ob : Nat) (bcs : Array Value) (tb : TypeId) (w : World) (hn : n < 4611686018427387904) (hna : VsAt w ab n S gb ob bcs tb) (N : Nat → Nat) (hN : ∀ i, i < n → ∃ ai ci, S i = .slice ai (N i) ci) :
  Calls Try.prog 71 #[.slice ab n c] w fun e w' => e = .returned (.bool (tbB n N)) ∧ Below w.heap.size w w' := by
 by_cases h0 : n = 0
 ·subst h0
  show Calls _ _ _ _ fun e w' => e = .returned (.bool false) ∧ _
  go_enter Try.func71, Try.ntmps71
  have sb := sbmk w
  (repeat ((fail_if_success with_reducible refine rg ?_); go_step))
  refine wp_region_pw ?_
  refine pw_box1 (by rfl) 26 _ rfl (.slice ab 0 c) rfl rfl ?_
  intro g1 z0 n0 r1 k
  simp only [Act.put, pu]
  have b1 := Nat.le_trans sb.size n0
  clear n0
  replace sb := sb.trans (k.below w.heap.size sb.size (by simp <;> omega))
  clear k
  refine pw_value (by rfl) (.bool false) (fun _ => rfl) ?_
  simp only [Act.put, pu]
  refine pw_nil ?_
  (repeat ((fail_if_success with_reducible refine rg ?_); go_step))
  refine wp_region_qw (by kernel_rfl) (by kernel_rfl) ?_
  refine qw_loadc (by rfl) 26 _ rfl _ (0) rfl r1 (.slice ab 0 c) rfl Try.isAgg26 ?_
  simp only [Act.put, pu]
  refine qw_value (by rfl) (.int .i64 0) (exec_len_s 26 _ rfl (ab) (0) (c) rfl sl_mx) ?_
  simp only [Act.put, pu]
  refine qw_value (by rfl) (.bool true) (exec_eql_k .i64 _ _ _ _ rfl 0 0 rfl rfl true rfl) ?_
  simp only [Act.put, pu]
  refine qw_move (by rfl) rfl rfl ?_
  simp only [Act.put, pu]
  refine qw_skip (by rfl) ?_
  simp only [Act.put, pu]
  refine qw_skip (by rfl) ?_
  simp only [Act.put, pu]
  refine qw_skip (by rfl) ?_
  simp only [Act.put, pu]
  refine qw_skip (by rfl) ?_
  simp only [Act.put, pu]
  refine qw_skip (by rfl) ?_
  simp only [Act.put, pu]
  refine qw_skip (by rfl) ?_
  simp only [Act.put, pu]
  refine qw_skip (by rfl) ?_
  simp only [Act.put, pu]
  refine qw_skip (by rfl) ?_
  simp only [Act.put, pu]
  refine qw_pick true (v := .bool true) (by rfl) rfl rfl rfl ?_
  simp only [Act.put, pu]
  refine qw_nil ?_
  intro w3 hqb
  replace sb := below_on sb (Nat.le_refl _) hqb
  clear hqb
  (repeat ((fail_if_success with_reducible refine rg ?_); go_step))
  refine wp_region_pw ?_
  refine pw_value (by rfl) (.bool false) (fun _ => rfl) ?_
  simp only [Act.put, pu]
  refine pw_nil ?_
  go_wp2
  go_ret
  exact ⟨rfl, sb⟩
 obtain ⟨a0, c0, hS0⟩ := hN 0 (by omega)
 obtain h0' | ⟨rfl, rB, hbt⟩ := hna.at'
 ·exact absurd h0' h0
 have hb0 := hbt 0 (by omega)
 rw [hS0] at hb0
 have HB : Hid (VsAt w (some ⟨gb, ob, none⟩) n S gb ob bcs tb) := hna
 have HR : Hid (RowR w gb bcs tb) := rB
 clear hbt hna rB
 have hcc := fun w' => counts_any n (N 0 : Nat) w'
 unfold tbB
 cases hB : ccB n (N 0)
 ·show Calls _ _ _ _ fun e w' => e = .returned (.bool false) ∧ _
  rw [hB] at hcc
  clear hN
  go_enter Try.func71, Try.ntmps71
  have sb := sbmk w
  (repeat ((fail_if_success with_reducible refine rg ?_); go_step))
  refine wp_region_pw ?_
  refine pw_box1 (by rfl) 26 _ rfl (.slice (some ⟨gb, ob, none⟩) n c) rfl rfl ?_
  intro g1 z0 n0 r1 k
  simp only [Act.put, pu]
  have b1 := Nat.le_trans sb.size n0
  clear n0
  replace sb := sb.trans (k.below w.heap.size sb.size (by simp <;> omega))
  clear k
  refine pw_value (by rfl) (.bool false) (fun _ => rfl) ?_
  simp only [Act.put, pu]
  refine pw_nil ?_
  have rB := HR.out.belowAll sb
  (repeat ((fail_if_success with_reducible refine rg ?_); go_step))
  refine wp_region_qw (by kernel_rfl) (by kernel_rfl) ?_
  refine qw_loadc (by rfl) 26 _ rfl _ (0) rfl r1 (.slice (some ⟨gb, ob, none⟩) n c) rfl Try.isAgg26 ?_
  simp only [Act.put, pu]
  refine qw_value (by rfl) (.int .i64 n) (exec_len_s 26 _ rfl (some ⟨gb, ob, none⟩) (n) (c) rfl sl_mx) ?_
  simp only [Act.put, pu]
  refine qw_value (by rfl) (.bool false) (exec_eql_k .i64 _ _ _ _ rfl n 0 rfl rfl false (decide_eq_false (by omega))) ?_
  simp only [Act.put, pu]
  refine qw_move (by rfl) rfl rfl ?_
  simp only [Act.put, pu]
  refine qw_loadc (by rfl) 26 _ rfl _ (0) rfl r1 (.slice (some ⟨gb, ob, none⟩) n c) rfl Try.isAgg26 ?_
  simp only [Act.put, pu]
  refine qw_value (by rfl) (.int .i64 n) (exec_len_s 26 _ rfl (some ⟨gb, ob, none⟩) (n) (c) rfl sl_mx) ?_
  simp only [Act.put, pu]
  refine qw_loadc (by rfl) 26 _ rfl _ (0) rfl r1 (.slice (some ⟨gb, ob, none⟩) n c) rfl Try.isAgg26 ?_
  simp only [Act.put, pu]
  refine qw_value (by rfl) (.pointer (some ⟨gb, ob + 0 * 1, none⟩)) ((exec_index_s 26 _ _ rfl (gb) (ob) (n) (c) rfl (0) rfl (by omega) _ Try.underlying26 1 Try.sizeOf27)) ?_
  simp only [Act.put, pu]
  refine qw_loadcR (by rfl) 27 _ rfl _ (ob + 0 * 1) rfl rB (.slice a0 (N 0) c0) hb0 Try.isAgg27 ?_
  simp only [Act.put, pu]
  refine qw_value (by rfl) (.int .i64 (N 0 : Nat)) (exec_len_s 27 _ rfl (a0) (N 0) (c0) rfl sl_natsX) ?_
  simp only [Act.put, pu]
  refine qw_call (by rfl) 58 _ _ rfl Try.func58 (by kernel_rfl) #[.int .i64 n, .int .i64 (N 0 : Nat)] rfl _ hcc ?_
  simp only [Act.put, pu]
  refine qw_value (by rfl) (.bool true) (exec_not _ _ rfl false rfl) ?_
  simp only [Act.put, pu]
  refine qw_pick false (v := .bool true) (by rfl) rfl rfl rfl ?_
  simp only [Act.put, pu]
  refine qw_nil ?_
  intro w3 hqb
  replace sb := below_on sb (Nat.le_refl _) hqb
  clear hqb
  (repeat ((fail_if_success with_reducible refine rg ?_); go_step))
  refine wp_region_pw ?_
  refine pw_value (by rfl) (.bool false) (fun _ => rfl) ?_
  simp only [Act.put, pu]
  refine pw_nil ?_
  go_wp2
  go_ret
  exact ⟨rfl, sb⟩
 ·show Calls _ _ _ _ fun e w' => e = .returned (.bool (!anB _ n)) ∧ _
  rw [hB] at hcc
  have har := fun w' g1 (hb : Below w.heap.size w w') (r1 : Row w' g1 #[.slice (some ⟨gb, ob, none⟩) n c] 26) => arows_any (some ⟨gb, ob, none⟩) n c 75 #[.pointer (some ⟨g1, 0, none⟩)] (fun k => decide ((N k : Int) = N 0)) w' Try.func75 (by kernel_rfl) hn (fun k hk w2 h2 => by
   obtain ⟨ai, ci, e⟩ := hN k hk
   exact tbp1_any _ n c S gb ob bcs tb a0 ai k (N k) ci (N 0) c0 g1 w2 hk hS0 e (r1.belowAll h2) (HB.out.below (below_on hb (Nat.le_refl _) h2)))
  clear hN
  go_enter Try.func71, Try.ntmps71
  have sb := sbmk w
  (repeat ((fail_if_success with_reducible refine rg ?_); go_step))
  refine wp_region_pw ?_
  refine pw_box1 (by rfl) 26 _ rfl (.slice (some ⟨gb, ob, none⟩) n c) rfl rfl ?_
  intro g1 z0 n0 r1 k
  simp only [Act.put, pu]
  have b1 := Nat.le_trans sb.size n0
  clear n0
  replace sb := sb.trans (k.below w.heap.size sb.size (by simp <;> omega))
  clear k
  refine pw_value (by rfl) (.bool false) (fun _ => rfl) ?_
  simp only [Act.put, pu]
  refine pw_nil ?_
  have rB := HR.out.belowAll sb
  (repeat ((fail_if_success with_reducible refine rg ?_); go_step))
  refine wp_region_qw (by kernel_rfl) (by kernel_rfl) ?_
  refine qw_loadc (by rfl) 26 _ rfl _ (0) rfl r1 (.slice (some ⟨gb, ob, none⟩) n c) rfl Try.isAgg26 ?_
  simp only [Act.put, pu]
  refine qw_value (by rfl) (.int .i64 n) (exec_len_s 26 _ rfl (some ⟨gb, ob, none⟩) (n) (c) rfl sl_mx) ?_
  simp only [Act.put, pu]
  refine qw_value (by rfl) (.bool false) (exec_eql_k .i64 _ _ _ _ rfl n 0 rfl rfl false (decide_eq_false (by omega))) ?_
  simp only [Act.put, pu]
  refine qw_move (by rfl) rfl rfl ?_
  simp only [Act.put, pu]
  refine qw_loadc (by rfl) 26 _ rfl _ (0) rfl r1 (.slice (some ⟨gb, ob, none⟩) n c) rfl Try.isAgg26 ?_
  simp only [Act.put, pu]
  refine qw_value (by rfl) (.int .i64 n) (exec_len_s 26 _ rfl (some ⟨gb, ob, none⟩) (n) (c) rfl sl_mx) ?_
  simp only [Act.put, pu]
  refine qw_loadc (by rfl) 26 _ rfl _ (0) rfl r1 (.slice (some ⟨gb, ob, none⟩) n c) rfl Try.isAgg26 ?_
  simp only [Act.put, pu]
  refine qw_value (by rfl) (.pointer (some ⟨gb, ob + 0 * 1, none⟩)) ((exec_index_s 26 _ _ rfl (gb) (ob) (n) (c) rfl (0) rfl (by omega) _ Try.underlying26 1 Try.sizeOf27)) ?_
  simp only [Act.put, pu]
  refine qw_loadcR (by rfl) 27 _ rfl _ (ob + 0 * 1) rfl rB (.slice a0 (N 0) c0) hb0 Try.isAgg27 ?_
  simp only [Act.put, pu]
  refine qw_value (by rfl) (.int .i64 (N 0 : Nat)) (exec_len_s 27 _ rfl (a0) (N 0) (c0) rfl sl_natsX) ?_
  simp only [Act.put, pu]
  refine qw_call (by rfl) 58 _ _ rfl Try.func58 (by kernel_rfl) #[.int .i64 n, .int .i64 (N 0 : Nat)] rfl _ hcc ?_
  simp only [Act.put, pu]
  refine qw_value (by rfl) (.bool false) (exec_not _ _ rfl true rfl) ?_
  simp only [Act.put, pu]
  refine qw_pick false (v := .bool false) (by rfl) rfl rfl rfl ?_
  simp only [Act.put, pu]
  refine qw_nil ?_
  intro w3 hqb
  replace r1 := r1.belowAll hqb
  replace sb := below_on sb (Nat.le_refl _) hqb
  clear hqb
  (repeat ((fail_if_success with_reducible refine rg ?_); go_step))
  refine wp_region_pw ?_
  refine pw_loadk (by rfl) 26 _ rfl _ (0) rfl r1.r (.slice (some ⟨gb, ob, none⟩) n c) rfl Try.isAgg26 ?_
  simp only [Act.put, pu]
  refine pw_value (by rfl) (.func (.func 75) #[] #[.pointer (some ⟨g1, 0, none⟩)]) (exec_func _ _ rfl _ rfl) ?_
  simp only [Act.put, pu]
  refine pw_callB (by rfl) 74 _ _ rfl Try.func74 (by kernel_rfl) #[.slice (some ⟨gb, ob, none⟩) n c, .func (.func 75) #[] #[.pointer (some ⟨g1, 0, none⟩)]] rfl _ (har _ g1 sb r1) ?_
  intro z3002 k
  simp only [Act.put, pu]
  replace r1 := k.row r1 (by simp <;> omega)
  replace sb := sb.trans (k.below w.heap.size sb.size (by simp <;> omega))
  clear k
  refine pw_as (by rfl) rfl rfl ?_
  simp only [Act.put, pu]
  refine pw_nil ?_
  go_wp2
  go_ret
  exact ⟨rfl, sb⟩
end Go.Proofs.Ytojobffihlmfgaa
/- matrix's Bytes. -/
namespace Go.Proofs.Ytojobffihlmfgaa
open Go.RowKit
set_option linter.unusedVariables false
set_option linter.unusedSectionVars false
set_option linter.unusedSimpArgs false
theorem wr8 (x : Nat) (h : x < 256) : IntKind.u8.wrap (x : Int) = (x : Int) := by rw [IntKind.wrap_u8']; omega
/-- A matrix's bytes; none's, if it is not to be put. -/
def xmB (n : Nat) (N : Nat → Nat) (M : Nat → Nat → Nat) : List UInt8 := if tbB n N = true then xmL n (N 0) (fun t => M (t / N 0) (t % N 0)) else []
theorem tbB_is {n : Nat} {N : Nat → Nat} (h : tbB n N = true) : 1 ≤ n ∧ n ≤ 25 ∧ 1 ≤ N 0 ∧ N 0 ≤ 7 ∧ ∀ i, i < n → N i = N 0 := by
 simp only [tbB, ccB, Bool.and_eq_true, decide_eq_true_eq, Bool.not_eq_true'] at h
 obtain ⟨⟨⟨⟨h1, h2⟩, h3⟩, h4⟩, h5⟩ := h
 refine ⟨by omega, by omega, by omega, by omega, fun i hi => ?_⟩
 by_cases e : N i = N 0
 ·exact e
 ·exact Bool.noConfusion (h5.symm.trans ((anB_iff _ n).2 ⟨i, hi, by show (!decide _) = true; rw [decide_eq_false (by omega)]; rfl⟩))
set_option maxRecDepth 100000 in
set_option maxHeartbeats 2000000 in
theorem mbytes_any (ab : Option Addr) (n c : Nat) (S : Nat → Value) (gb ob : Nat) (bcs : Array Value) (tb : TypeId) (N : Nat → Nat) (M : Nat → Nat → Nat) (w : World) (hn : n < 4611686018427387904) (hna : VsAt w ab n S gb ob bcs tb) (hS : ∀ i, i < n → NrAt w (S i) (N i) (M i)) :
  Calls Try.prog 54 #[.slice ab n c] w fun e w' => e = .returned (.string ⟨(xmB n N M).toArray⟩) ∧ Below w.heap.size w w' := by
 have htb := fun w' (hb : Below w.heap.size w w') => tbp_any ab n c S gb ob bcs tb w' hn (hna.below hb) N (fun i hi => by
  obtain ⟨ai, ci, _, _, _, _, e, _⟩ := hS i hi
  exact ⟨ai, ci, e⟩)
 cases hT : tbB n N
 ·rw [hT] at htb
  rw [show xmB n N M = [] by unfold xmB; rw [if_neg (by rw [hT]; decide)]]
  clear hS hna
  go_enter Try.func54, Try.ntmps54
  have sb := sbmk w
  (repeat ((fail_if_success with_reducible refine rg ?_); go_step))
  refine wp_region_pw ?_
  refine pw_move (by rfl) (.inr rfl) rfl ?_
  simp only [Act.put, pu]
  refine pw_nil ?_
  (repeat ((fail_if_success with_reducible refine rg ?_); go_step))
  refine wp_region_pw ?_
  refine pw_mv (by rfl) rfl rfl ?_
  simp only [Act.put, pu]
  refine pw_callB (by rfl) 71 _ _ rfl Try.func71 (by kernel_rfl) #[.slice ab n c] rfl _ (htb _ sb) ?_
  intro z1001 k
  simp only [Act.put, pu]
  replace sb := sb.trans (k.below w.heap.size sb.size (by simp <;> omega))
  clear k
  refine pw_value (by rfl) (.bool true) (exec_not _ _ rfl false rfl) ?_
  simp only [Act.put, pu]
  refine pw_nil ?_
  (repeat ((fail_if_success with_reducible refine rg ?_); go_step))
  refine wp_region_pw ?_
  refine pw_move (by rfl) (.inr rfl) rfl ?_
  simp only [Act.put, pu]
  refine pw_nil ?_
  go_wp2
  go_ret
  exact ⟨rfl, sb⟩
 rw [hT] at htb
 obtain ⟨n1, n2, k1, k2, hNk⟩ := tbB_is hT
 have HE : Hid (xmB n N M = xmL n (N 0) (fun t => M (t / N 0) (t % N 0))) := by
  show _ = _
  unfold xmB
  rw [if_pos hT]
 have HS : Hid (∀ i, i < n → ∃ ai ci gi oi ics ti, S i = .slice ai (N 0) ci ∧ NatsAt w ai (N 0) (M i) gi oi ics ti) := fun i hi => by
  obtain ⟨ai, ci, gi, oi, ics, ti, e, h⟩ := hS i hi
  rw [hNk i hi] at e h
  exact ⟨ai, ci, gi, oi, ics, ti, e, h⟩
 obtain ⟨k, hk⟩ : ∃ k, N 0 = k := ⟨_, rfl⟩
 rw [hk] at HE HS k1 k2
 obtain ⟨G, hG⟩ : ∃ G : Nat → Nat, G = fun t => M (t / k) (t % k) := ⟨_, rfl⟩
 have HG : Hid (∀ i j, j < k → M i j = G (i * k + j)) := fun i j hj => by
  rw [hG]
  show _ = M _ _
  rw [ix_div i hj, ix_mod i hj]
 have HGl : Hid (∀ t, t < n * k → G t < 2 ^ 256) := fun t ht => by
  rw [hG]
  have h1 : t / k < n := Nat.div_lt_of_lt_mul (by rw [Nat.mul_comm]; exact ht)
  obtain ⟨ai, ci, gi, oi, ics, ti, e, h⟩ := HS.out _ h1
  exact h.lt _ (Nat.mod_lt _ (by omega))
 rw [← hG] at HE
 have HB : Hid (VsAt w ab n S gb ob bcs tb) := hna
 clear hS hna hG hNk hk hT
 have hnk : n * k ≤ 25 * 7 := Nat.mul_le_mul n2 k2
 have HL : Hid (∀ t, t ≤ n * k → (UInt8.ofNat n :: UInt8.ofNat k :: xmT G (t)).length + 64 ≤ 100000) := fun t ht => by
  show (xmT G t).length + 1 + 1 + 64 ≤ 100000
  have := xmT_length (G := G) (t := t) (fun i hi => HGl.out i (by omega))
  omega
 go_enter Try.func54, Try.ntmps54
 have sb := sbmk w
 (repeat ((fail_if_success with_reducible refine rg ?_); go_step))
 refine wp_region_pw ?_
 refine pw_move (by rfl) (.inr rfl) rfl ?_
 simp only [Act.put, pu]
 refine pw_nil ?_
 (repeat ((fail_if_success with_reducible refine rg ?_); go_step))
 refine wp_region_pw ?_
 refine pw_mv (by rfl) rfl rfl ?_
 simp only [Act.put, pu]
 refine pw_callB (by rfl) 71 _ _ rfl Try.func71 (by kernel_rfl) #[.slice ab n c] rfl _ (htb _ sb) ?_
 intro z1001 k
 simp only [Act.put, pu]
 replace sb := sb.trans (k.below w.heap.size sb.size (by simp <;> omega))
 clear k
 refine pw_value (by rfl) (.bool false) (exec_not _ _ rfl true rfl) ?_
 simp only [Act.put, pu]
 refine pw_nil ?_
 clear htb
 (repeat ((fail_if_success with_reducible refine rg ?_); go_step))
 refine wp_region_pw ?_
 refine pw_new (by rfl) 83 rfl _ zero_bux ?_
 intro g3 z3000 n0 r3 k
 simp only [Act.put, pu]
 have b3 := Nat.le_trans sb.size n0
 clear n0
 replace sb := sb.trans (k.below w.heap.size sb.size (by simp <;> omega))
 clear k
 refine pw_nil ?_
 have hB := BuAt.fresh b3 r3
 clear r3
 (repeat ((fail_if_success with_reducible refine rg ?_); go_step))
 refine wp_region_pw ?_
 refine pw_mv (by rfl) rfl rfl ?_
 simp only [Act.put, pu]
 refine pw_value (by rfl) (.int .i64 n) (exec_len_s 26 _ rfl (ab) (n) (c) rfl sl_mx) ?_
 simp only [Act.put, pu]
 refine pw_value (by rfl) (.int .u8 (n : Nat)) (y_conv _ _ _ rfl .i64 .u8 Try.underlying3 Try.underlying5 (n : Nat) _ rfl (wr8 _ (by omega))) ?_
 simp only [Act.put, pu]
 refine pw_callE (by rfl) 51 _ _ rfl Try.func51 (by kernel_rfl) #[.pointer (some ⟨g3, 0, none⟩), .int .u8 (n : Nat)] rfl (wbyt_any w.heap.size g3 n _ _ hB (by omega) (by simp) sb.size) ?_
 clear hB
 rintro _ z4003 ⟨rfl, hB, hb⟩
 refine ⟨_, rfl, ?_⟩
 simp only [Act.put, pu]
 replace sb := sb.trans hb
 clear hb
 refine pw_nil ?_
 obtain ⟨a0, c0, g0, o0, ics0, t0, e0, h0⟩ := HS.out 0 (by omega)
 obtain hx | ⟨rfl, rB, hbt⟩ := (HB.out.below sb).at'
 ·exact absurd hx (by omega)
 have hb0 := hbt 0 (by omega)
 rw [e0] at hb0
 clear hbt e0 h0
 (repeat ((fail_if_success with_reducible refine rg ?_); go_step))
 refine wp_region_pw ?_
 refine pw_mv (by rfl) rfl rfl ?_
 simp only [Act.put, pu]
 refine pw_value (by rfl) (.pointer (some ⟨gb, ob + 0 * 1, none⟩)) ((exec_index_s 26 _ _ rfl (gb) (ob) (n) (c) rfl (0) rfl (by omega) _ Try.underlying26 1 Try.sizeOf27)) ?_
 simp only [Act.put, pu]
 refine pw_loadk (by rfl) 27 _ rfl _ (ob + 0 * 1) rfl rB (.slice a0 k c0) hb0 Try.isAgg27 ?_
 simp only [Act.put, pu]
 refine pw_value (by rfl) (.int .i64 k) (exec_len_s 27 _ rfl (a0) (k) (c0) rfl sl_natsX) ?_
 simp only [Act.put, pu]
 refine pw_value (by rfl) (.int .u8 (k : Nat)) (y_conv _ _ _ rfl .i64 .u8 Try.underlying3 Try.underlying5 (k : Nat) _ rfl (wr8 _ (by omega))) ?_
 simp only [Act.put, pu]
 refine pw_callE (by rfl) 51 _ _ rfl Try.func51 (by kernel_rfl) #[.pointer (some ⟨g3, 0, none⟩), .int .u8 (k : Nat)] rfl (wbyt_any w.heap.size g3 k _ _ hB (by omega) (by simp) sb.size) ?_
 clear hB
 rintro _ z5005 ⟨rfl, hB, hb⟩
 refine ⟨_, rfl, ?_⟩
 simp only [Act.put, pu]
 replace sb := sb.trans hb
 clear hb
 refine pw_nil ?_
 clear rB hb0
 rw [show [] ++ [UInt8.ofNat n] ++ [UInt8.ofNat k] = (UInt8.ofNat n :: UInt8.ofNat k :: xmT G (0 * k)) by rw [Nat.zero_mul]; rfl] at hB
 (repeat ((fail_if_success with_reducible refine rg ?_); go_step))
 refine wp_region_pw ?_
 refine pw_mv (by rfl) rfl rfl ?_
 simp only [Act.put, pu]
 refine pw_value (by rfl) (.int .i64 n) (exec_len_s 26 _ rfl (some ⟨gb, ob, none⟩) (n) (c) rfl sl_mx) ?_
 simp only [Act.put, pu]
 refine pw_value (by rfl) (.int .i64 0) (fun _ => rfl) ?_
 simp only [Act.put, pu]
 refine pw_nil ?_
 go_wp2_with fail
 go_loopg [5, 24] n (fun x s5 s24 wr => ∃ i : Nat, i + x = n ∧ s24 = .int .i64 i ∧ BuAt wr w.heap.size g3 (UInt8.ofNat n :: UInt8.ofNat k :: xmT G (i * k)) ∧ Below w.heap.size w wr)
 case atStart => exact ⟨0, by omega, rfl, hB, sb⟩
 case round =>
  clear hB sb
  obtain ⟨i, hi, rfl, hB, sb⟩ := hrel
  cases gk with
  | zero =>
   obtain rfl : i = n := by omega
   clear hi HG HGl HL HS HB
   (repeat ((fail_if_success with_reducible refine rg ?_); go_step))
   refine wp_region_pw ?_
   refine pw_value (by rfl) (.bool false) (exec_lt_b _ _ _ _ rfl i i rfl rfl false (decide_eq_false (Int.lt_irrefl _))) ?_
   simp only [Act.put, pu]
   refine pw_nil ?_
   (repeat ((fail_if_success with_reducible refine rg ?_); go_step))
   refine wp_region_pw ?_
   refine pw_callE (by rfl) 56 _ _ rfl Try.func56 (by kernel_rfl) #[.pointer (some ⟨g3, 0, none⟩)] rfl (bstr_any w.heap.size g3 _ _ hB sb.size) ?_
   rintro _ z17000 ⟨rfl, hb⟩
   refine ⟨_, rfl, ?_⟩
   simp only [Act.put, pu]
   replace sb := sb.trans hb
   clear hb
   refine pw_as (by rfl) rfl rfl ?_
   simp only [Act.put, pu]
   refine pw_nil ?_
   go_wp2
   go_ret
   exact ⟨by rw [HE.out]; rfl, sb⟩
  | succ x =>
   have hlt : i < n := by omega
   obtain ⟨ai, ci, gi, oi, ics, ti, ei, hi'⟩ := HS.out i hlt
   obtain hx | ⟨_, rB, hbt⟩ := (HB.out.below sb).at'
   ·exact absurd hx (by omega)
   have hbi := hbt i hlt
   rw [ei] at hbi
   obtain hx | ⟨rfl, _, _⟩ := hi'.at'
   ·exact absurd hx (by omega)
   have HI : Hid (NatsAt w (some ⟨gi, oi, none⟩) k (M i) gi oi ics ti) := hi'
   clear hbt ei hi'
   (repeat ((fail_if_success with_reducible refine rg ?_); go_step))
   refine wp_region_pw ?_
   refine pw_value (by rfl) (.bool true) (exec_lt_b _ _ _ _ rfl i n rfl rfl true (decide_eq_true (by omega))) ?_
   simp only [Act.put, pu]
   refine pw_nil ?_
   (repeat ((fail_if_success with_reducible refine rg ?_); go_step))
   refine wp_region_pw ?_
   refine pw_value (by rfl) (.pointer (some ⟨gb, ob + i * 1, none⟩)) ((exec_index_s 26 _ _ rfl (gb) (ob) (n) (c) rfl (i) rfl (hlt) _ Try.underlying26 1 Try.sizeOf27)) ?_
   simp only [Act.put, pu]
   refine pw_loadk (by rfl) 27 _ rfl _ (ob + i * 1) rfl rB (.slice (some ⟨gi, oi, none⟩) k ci) hbi Try.isAgg27 ?_
   simp only [Act.put, pu]
   refine pw_as (by rfl) rfl rfl ?_
   simp only [Act.put, pu]
   refine pw_nil ?_
   clear rB hbi
   (repeat ((fail_if_success with_reducible refine rg ?_); go_step))
   refine wp_region_pw ?_
   refine pw_mv (by rfl) rfl rfl ?_
   simp only [Act.put, pu]
   refine pw_value (by rfl) (.int .i64 k) (exec_len_s 27 _ rfl (some ⟨gi, oi, none⟩) (k) (ci) rfl sl_natsX) ?_
   simp only [Act.put, pu]
   refine pw_value (by rfl) (.int .i64 0) (fun _ => rfl) ?_
   simp only [Act.put, pu]
   refine pw_nil ?_
   go_wp2_with fail
   go_loopg [7, 30] k (fun y s7 s30 wr => ∃ j : Nat, j + y = k ∧ s30 = .int .i64 j ∧ BuAt wr w.heap.size g3 (UInt8.ofNat n :: UInt8.ofNat k :: xmT G (i * k + j)) ∧ Below w.heap.size w wr)
   case atStart => exact ⟨0, by omega, rfl, hB, sb⟩
   case round =>
    clear hB sb
    obtain ⟨j, hj, rfl, hB, sb⟩ := hrel
    cases gk with
    | zero =>
     obtain rfl : j = k := by omega
     rw [← Nat.succ_mul] at hB
     clear hj
     (repeat ((fail_if_success with_reducible refine rg ?_); go_step))
     refine wp_region_pw ?_
     refine pw_value (by rfl) (.bool false) (exec_lt_b _ _ _ _ rfl j j rfl rfl false (decide_eq_false (Int.lt_irrefl _))) ?_
     simp only [Act.put, pu]
     refine pw_nil ?_
     (repeat ((fail_if_success with_reducible refine rg ?_); go_step))
     refine wp_region_pw ?_
     refine pw_value (by rfl) (.int .i64 ((i + 1 : Nat) : Int)) (exec_add_in _ _ _ _ rfl i 1 rfl rfl (by omega)) ?_
     simp only [Act.put, pu]
     refine pw_mv (by rfl) rfl rfl ?_
     simp only [Act.put, pu]
     refine pw_nil ?_
     go_wp2
     go_roundg x
     case measure => omega
     case rel => exact ⟨i + 1, by omega, rfl, hB, sb⟩
    | succ y =>
     have hjk : j < k := by omega
     obtain hx | ⟨_, rI, hbt⟩ := (HI.out.below sb).at'
     ·exact absurd hx (by omega)
     have hbj := hbt j hjk
     have hij := ix_lt hlt hjk
     have hlt6 := HGl.out _ hij
     have hll := HL.out _ (Nat.le_of_lt hij)
     have hnx : (UInt8.ofNat n :: UInt8.ofNat k :: xmT G (i * k + j)) ++ [UInt8.ofNat (need (G (i * k + j)))] ++ bytesL (G (i * k + j)) (need (G (i * k + j))) = (UInt8.ofNat n :: UInt8.ofNat k :: xmT G (i * k + (j + 1))) := by
      show _ = UInt8.ofNat n :: UInt8.ofNat k :: (xmT G (i * k + j) ++ xmN (G (i * k + j)))
      simp [xmN]
     have hby := fun w' => nbytes_any (G (i * k + j)) w' hlt6
     rw [show bytesOf (G (i * k + j)) = ⟨(bytesL (G (i * k + j)) (need (G (i * k + j)))).toArray⟩ from rfl] at hby
     have hbl := bytesL_length (G (i * k + j)) (need (G (i * k + j)))
     have hnd := need_le _ hlt6
     rw [HG.out i j hjk] at hbj
     clear hbt hlt6
     generalize bytesL (G (i * k + j)) (need (G (i * k + j))) = L at *
     generalize need (G (i * k + j)) = nd at *
     generalize G (i * k + j) = X at *
     (repeat ((fail_if_success with_reducible refine rg ?_); go_step))
     refine wp_region_pw ?_
     refine pw_value (by rfl) (.bool true) (exec_lt_b _ _ _ _ rfl j k rfl rfl true (decide_eq_true (by omega))) ?_
     simp only [Act.put, pu]
     refine pw_nil ?_
     have cb := below_self sb
     (repeat ((fail_if_success with_reducible refine rg ?_); go_step))
     refine wp_region_pw ?_
     refine pw_value (by rfl) (.pointer (some ⟨gi, oi + j * 4, none⟩)) ((exec_index_s 27 _ _ rfl gi oi (k) (ci) rfl (j) rfl (hjk) _ Try.underlying27 4 size_nat4)) ?_
     simp only [Act.put, pu]
     refine pw_loadm (by rfl) 51 _ rfl _ (oi + j * 4) rfl rI (natC X) hbj _ Try.underlying51 rfl size_nat ?_
     simp only [Act.put, pu]
     refine pw_new (by rfl) 51 rfl _ zero_nat ?_
     intro g7 z11002 n0 r7 k
     simp only [Act.put, pu]
     have bcbx7 := Nat.le_trans cb.size n0
     have b7 := Nat.le_trans sb.size n0
     clear n0
     replace cb := cb.trans (k.below _ cb.size (by simp <;> omega))
     replace sb := sb.trans (k.below w.heap.size sb.size (by simp <;> omega))
     clear k
     refine pw_put (by rfl) 51 _ _ rfl _ rfl r7 (natC X) rfl (by exact size_nat) (by simp only [natC_size]) (natC_one _) ?_
     clear r7
     intro z11003 r7 k
     simp only [Act.put]
     replace cb := cb.trans (k.below _ cb.size (by simp <;> omega))
     replace sb := sb.trans (k.below w.heap.size sb.size (by simp <;> omega))
     clear k
     refine pw_nil ?_
     replace hB := hB.below cb
     clear rI hbj cb
     (repeat ((fail_if_success with_reducible refine rg ?_); go_step))
     refine wp_region_pw ?_
     refine pw_loadm (by rfl) 51 _ rfl _ 0 rfl r7.r _ (part_all _) _ Try.underlying51 rfl size_nat ?_
     simp only [Act.put, pu]
     refine pw_callB (by rfl) 55 _ _ rfl Try.func55 (by kernel_rfl) #[.agg (natC X)] rfl _ (hby _) ?_
     intro z12001 k
     simp only [Act.put, pu]
     replace hB := hB.below k.nil
     replace r7 := k.row r7 (by simp <;> omega)
     replace sb := sb.trans (k.below w.heap.size sb.size (by simp <;> omega))
     clear k
     refine pw_as (by rfl) rfl rfl ?_
     simp only [Act.put, pu]
     refine pw_nil ?_
     clear hby
     (repeat ((fail_if_success with_reducible refine rg ?_); go_step))
     refine wp_region_pw ?_
     refine pw_mv (by rfl) rfl rfl ?_
     simp only [Act.put, pu]
     refine pw_value (by rfl) (.int .i64 nd) (fun w' => (y_lenS _ _ rfl L rfl Try.underlying9 w').trans (by rw [hbl])) ?_
     simp only [Act.put, pu]
     refine pw_value (by rfl) (.int .u8 (nd : Nat)) (y_conv _ _ _ rfl .i64 .u8 Try.underlying3 Try.underlying5 (nd : Nat) _ rfl (wr8 _ (by omega))) ?_
     simp only [Act.put, pu]
     refine pw_callE (by rfl) 51 _ _ rfl Try.func51 (by kernel_rfl) #[.pointer (some ⟨g3, 0, none⟩), .int .u8 (nd : Nat)] rfl (wbyt_any w.heap.size g3 nd _ _ hB (by omega) (by omega) sb.size) ?_
     clear hB
     rintro _ z13003 ⟨rfl, hB, hb⟩
     refine ⟨_, rfl, ?_⟩
     simp only [Act.put, pu]
     replace sb := sb.trans hb
     clear hb
     refine pw_nil ?_
     (repeat ((fail_if_success with_reducible refine rg ?_); go_step))
     refine wp_region_pw ?_
     refine pw_mv (by rfl) rfl rfl ?_
     simp only [Act.put, pu]
     refine pw_callE (by rfl) 53 _ _ rfl Try.func53 (by kernel_rfl) #[.pointer (some ⟨g3, 0, none⟩), .string ⟨(L).toArray⟩] rfl (wstr_any w.heap.size g3 _ _ _ hB (by rw [List.length_append, hbl]; simp only [List.length_cons, List.length_nil]; simp only [List.length_cons] at hll; omega) sb.size) ?_
     clear hB
     rintro _ z14001 ⟨rfl, hB, hb⟩
     refine ⟨_, rfl, ?_⟩
     simp only [Act.put, pu]
     replace sb := sb.trans hb
     clear hb
     refine pw_nil ?_
     rw [hnx] at hB
     (repeat ((fail_if_success with_reducible refine rg ?_); go_step))
     refine wp_region_pw ?_
     refine pw_value (by rfl) (.int .i64 ((j + 1 : Nat) : Int)) (exec_add_in _ _ _ _ rfl j 1 rfl rfl (by omega)) ?_
     simp only [Act.put, pu]
     refine pw_mv (by rfl) rfl rfl ?_
     simp only [Act.put, pu]
     refine pw_nil ?_
     go_wp2
     go_roundg y
     case measure => omega
     case rel => exact ⟨j + 1, by omega, rfl, hB, sb⟩
end Go.Proofs.Ytojobffihlmfgaa
/- matrix's takeNat, Take. -/
namespace Go.Proofs.Ytojobffihlmfgaa
open Go.RowKit
set_option linter.unusedVariables false
set_option linter.unusedSectionVars false
set_option linter.unusedSimpArgs false
/-- A natural off the beginning of bytes: it, what is left, whether there is one. -/
def tkA (l : List UInt8) : Nat := if l.length ≤ yb l 0 then 0 else takeN ⟨((l.take (1 + yb l 0)).drop 1).toArray⟩
def tkR (l : List UInt8) : List UInt8 := if l.length ≤ yb l 0 then [] else l.drop (1 + yb l 0)
def tkE (l : List UInt8) : Int := if l.length ≤ yb l 0 then 4 else takeE ⟨((l.take (1 + yb l 0)).drop 1).toArray⟩
theorem tkN_eq (l : List UInt8) : tkN l = if tkE l = 0 then some (tkA l, tkR l) else none := by
 cases l with
 | nil => rfl
 | cons b r =>
  have h0 : yb (b :: r) 0 = b.toNat := rfl
  unfold tkN tkE tkA tkR
  rw [h0, show 1 + b.toNat = b.toNat + 1 from Nat.add_comm _ _, List.take_succ_cons, List.drop_succ_cons, List.drop_succ_cons, List.drop_zero]
  dsimp only
  by_cases h : r.length < b.toNat
  ·have h2 : (b :: r).length ≤ b.toNat := h
   rw [if_pos h, if_pos h2, if_neg (by decide)]
  ·have h2 : ¬ (b :: r).length ≤ b.toNat := h
   rw [if_neg h, if_neg h2, if_neg h2, if_neg h2]
theorem takeE_04 (s : ByteArray) : takeE s = 0 ∨ takeE s = 4 := by
 unfold takeE
 split
 ·exact .inr rfl
 ·exact .inl rfl
theorem tkE_04 (l : List UInt8) : tkE l = 0 ∨ tkE l = 4 := by
 unfold tkE
 split
 ·exact .inr rfl
 ·exact takeE_04 _
/-- What is left behind so many naturals; the next one. -/
def tkS (r : List UInt8) : Nat → List UInt8
 | 0 => r
 | t + 1 => tkR (tkS r t)
def tkG (r : List UInt8) (t : Nat) : Nat := tkA (tkS r t)
theorem tkS_is (r : List UInt8) : ∀ t, (∀ s, s < t → tkE (tkS r s) = 0) → r = xmT (tkG r) t ++ tkS r t ∧ ∀ s, s < t → tkG r s < 2 ^ 256
 | 0, _ => ⟨rfl, fun s hs => absurd hs (by omega)⟩
 | t + 1, h => by
  obtain ⟨h1, h2⟩ := tkS_is r t (fun s hs => h s (by omega))
  have e : tkN (tkS r t) = some (tkA (tkS r t), tkR (tkS r t)) := by rw [tkN_eq, if_pos (h t (by omega))]
  obtain ⟨h3, h4⟩ := tkN_is e
  refine ⟨?_, fun s hs => ?_⟩
  ·show r = xmT (tkG r) t ++ xmN (tkA (tkS r t)) ++ tkR (tkS r t)
   rw [List.append_assoc, ← h3, ← h1]
  ·by_cases hst : s = t
   ·subst hst; exact h4
   ·exact h2 s (by omega)
/-- Three results: a natural in memory, two values. -/
theorem ret_rvv {P : Program} {fn : Func} {R : Ending → World → Prop} {a : Act} {w : World} {p u x : Tmp} {ty : TypeId} (hf : fn.results = #[.cell p ty, .tmp u, .tmp x]) (g : Nat) (hp : a.tmps.getD p undef = .pointer (some ⟨g, 0, none⟩))
  {t : TypeId} {cs : Array Value} (hr : Row w g cs t) (n : Nat) (e : TypeId) (hu : P.underlying ty = some (.array n e)) (hi : (P.info? ty).map (·.size) = some cs.size) (v : Value) (hv : a.tmps.getD u undef = v) (y : Value) (hy : a.tmps.getD x undef = y) (hd : a.defers = [])
  (h : R (.returned (.tuple #[.agg cs, v, y])) w) : bodyPost P fn R .ret a w := by
 refine bodyPost_ret (v := .tuple #[.agg cs, v, y]) ?_ hd h
 have h1 := run_loadVar_row w g t ty cs (0, 0) _ hr hu rfl hi
 rw [Array.getD_eq_getD_getElem?] at hp hv hy
 simp [results, hf, hp, hv, hy, Sem.run_bind, asAddr, h1]
section
variable {P : Program} {ops : Array Oper} {Q : Exit → Act → World → Prop} {rest : List Oper} {a : Act} {w : World} {o : Oper}
/-- A slice that is made, as long as a byte says. -/
theorem pw_make8 (hw : Region.wanted o (yielded ops a.tmps) = true) (t e : TypeId) (x y : Operand) (ho : o.op = .makeSlice t x y) (i : TypeInfo) (z : Value) (ht : P.underlying t = some (.slice e)) (hi : P.info? e = some i) (hz : i.zero = some z) (m : Nat) (hx : a.eval x = .int .u8 m) (hy : a.eval y = .int .u8 m)
  (hcells : m * i.size ≤ 16777216) (hbytes : i.bytes * m ≤ 281474976710656) (h63 : m ≤ 9223372036854775807)
  (h : ∀ g w', w.heap.size ≤ g → Row w' g (madeCells z.cells (m * i.size)) e → Kept [] w w' → PW P ops Q rest (a.put o.dst (.slice (some ⟨g, 0, none⟩) m m)) w') : PW P ops Q (o :: rest) a w := by
 refine pw_made hw (fun g => .slice (some ⟨g, 0, none⟩) m m) e _ ?_ h
 have hb' : (i.bytes : Int) * (m : Int) ≤ 281474976710656 := by rw [← Int.natCast_mul]; omega
 have hr := run_makeSlice (P := P) w t e i z ht hi hz .u8 .u8 (m : Int) (m : Int) (by omega) (by omega) (by rw [Int.toNat_natCast]; exact hcells) hb' (by omega)
 rw [Int.toNat_natCast] at hr
 unfold execOp
 simp only [ho, hx, hy, Sem.run_bind, hr, Result.andThen_ok]
 rfl
end
set_option maxRecDepth 100000 in
set_option maxHeartbeats 2000000 in
theorem tkn_any (l : List UInt8) (w : World) (hl : l.length < 4611686018427387904) :
  Calls Try.prog 59 #[.string ⟨(l).toArray⟩] w fun e w' => e = .returned (.tuple #[.agg (natC (tkA l)), .string ⟨(tkR l).toArray⟩, .int .i64 (tkE l)]) ∧ Below w.heap.size w w' := by
 have hb256 := yb_lt l 0
 obtain ⟨b, hb⟩ : ∃ b, yb l 0 = b := ⟨_, rfl⟩
 unfold tkA tkR tkE
 rw [hb] at hb256 ⊢
 by_cases h : l.length ≤ b
 ·rw [if_pos h, if_pos h, if_pos h]
  by_cases h0 : l.length = 0
  ·clear hb
   go_enter Try.func59, Try.ntmps59
   have sb := sbmk w
   (repeat ((fail_if_success with_reducible refine rg ?_); go_step))
   refine wp_region_pw ?_
   refine pw_new (by rfl) 51 rfl _ zero_nat ?_
   intro g2 z0 n0 r2 k
   simp only [Act.put, pu]
   have b2 := Nat.le_trans sb.size n0
   clear n0
   replace sb := sb.trans (k.below w.heap.size sb.size (by simp <;> omega))
   clear k
   refine pw_move (by rfl) (.inr rfl) rfl ?_
   simp only [Act.put, pu]
   refine pw_value (by rfl) (.int .i64 0) (fun _ => rfl) ?_
   simp only [Act.put, pu]
   refine pw_nil ?_
   (repeat ((fail_if_success with_reducible refine rg ?_); go_step))
   refine wp_region_pw ?_
   refine pw_mv (by rfl) rfl rfl ?_
   simp only [Act.put, pu]
   refine pw_value (by rfl) (.int .i64 (l).length) (y_lenS _ _ rfl l rfl Try.underlying9) ?_
   simp only [Act.put, pu]
   refine pw_value (by rfl) (.bool true) (exec_eql_k .i64 _ _ _ _ rfl l.length 0 rfl rfl true (decide_eq_true (by omega))) ?_
   simp only [Act.put, pu]
   refine pw_mv (by rfl) rfl rfl ?_
   simp only [Act.put, pu]
   refine pw_skip (by rfl) ?_
   simp only [Act.put, pu]
   refine pw_skip (by rfl) ?_
   simp only [Act.put, pu]
   refine pw_skip (by rfl) ?_
   simp only [Act.put, pu]
   refine pw_skip (by rfl) ?_
   simp only [Act.put, pu]
   refine pw_skip (by rfl) ?_
   simp only [Act.put, pu]
   refine pw_skip (by rfl) ?_
   simp only [Act.put, pu]
   refine pw_pick (by rfl) true (v := .bool true) rfl rfl rfl ?_
   simp only [Act.put, pu]
   refine pw_nil ?_
   (repeat ((fail_if_success with_reducible refine rg ?_); go_step))
   refine wp_region_pw ?_
   refine pw_value (by rfl) (.agg (natC 0)) (exec_build0 _ rfl _ built_nat) ?_
   simp only [Act.put, pu]
   refine pw_put (by rfl) 51 _ _ rfl _ rfl r2 (natC 0) rfl (by exact size_nat) (by simp only [natC_size]) (natC_one _) ?_
   clear r2
   intro z2001 r2 k
   simp only [Act.put]
   replace sb := sb.trans (k.below w.heap.size sb.size (by simp <;> omega))
   clear k
   refine pw_move (by rfl) (.inr rfl) rfl ?_
   simp only [Act.put, pu]
   refine pw_value (by rfl) (.int .i64 4) (fun _ => rfl) ?_
   simp only [Act.put, pu]
   refine pw_nil ?_
   go_wp2
   exact ret_rvv rfl _ rfl r2 4 _ Try.underlying51 (by exact size_nat) _ rfl _ rfl rfl ⟨rfl, sb⟩
  ·have h1 : 0 < l.length := by omega
   go_enter Try.func59, Try.ntmps59
   have sb := sbmk w
   (repeat ((fail_if_success with_reducible refine rg ?_); go_step))
   refine wp_region_pw ?_
   refine pw_new (by rfl) 51 rfl _ zero_nat ?_
   intro g2 z0 n0 r2 k
   simp only [Act.put, pu]
   have b2 := Nat.le_trans sb.size n0
   clear n0
   replace sb := sb.trans (k.below w.heap.size sb.size (by simp <;> omega))
   clear k
   refine pw_move (by rfl) (.inr rfl) rfl ?_
   simp only [Act.put, pu]
   refine pw_value (by rfl) (.int .i64 0) (fun _ => rfl) ?_
   simp only [Act.put, pu]
   refine pw_nil ?_
   (repeat ((fail_if_success with_reducible refine rg ?_); go_step))
   refine wp_region_pw ?_
   refine pw_mv (by rfl) rfl rfl ?_
   simp only [Act.put, pu]
   refine pw_value (by rfl) (.int .i64 (l).length) (y_lenS _ _ rfl l rfl Try.underlying9) ?_
   simp only [Act.put, pu]
   refine pw_value (by rfl) (.bool false) (exec_eql_k .i64 _ _ _ _ rfl l.length 0 rfl rfl false (decide_eq_false (by omega))) ?_
   simp only [Act.put, pu]
   refine pw_mv (by rfl) rfl rfl ?_
   simp only [Act.put, pu]
   refine pw_mv (by rfl) rfl rfl ?_
   simp only [Act.put, pu]
   refine pw_value (by rfl) (.int .i64 (l).length) (y_lenS _ _ rfl l rfl Try.underlying9) ?_
   simp only [Act.put, pu]
   refine pw_mv (by rfl) rfl rfl ?_
   simp only [Act.put, pu]
   refine pw_value (by rfl) (.int .u8 (b : Nat)) (fun w' => (y_index _ _ _ rfl Try.underlying9 l rfl .i64 0 rfl h1 w').trans (by rw [hb])) ?_
   simp only [Act.put, pu]
   refine pw_value (by rfl) (.int .i64 (b : Nat)) (y_conv _ _ _ rfl .u8 .i64 Try.underlying5 Try.underlying3 (b : Nat) _ rfl (by rw [IntKind.wrap_i64]; omega)) ?_
   simp only [Act.put, pu]
   refine pw_value (by rfl) (.bool true) (exec_leq_i _ _ _ _ rfl l.length b rfl rfl true (decide_eq_true (by omega))) ?_
   simp only [Act.put, pu]
   refine pw_pick (by rfl) false (v := .bool true) rfl rfl rfl ?_
   simp only [Act.put, pu]
   refine pw_nil ?_
   (repeat ((fail_if_success with_reducible refine rg ?_); go_step))
   refine wp_region_pw ?_
   refine pw_value (by rfl) (.agg (natC 0)) (exec_build0 _ rfl _ built_nat) ?_
   simp only [Act.put, pu]
   refine pw_put (by rfl) 51 _ _ rfl _ rfl r2 (natC 0) rfl (by exact size_nat) (by simp only [natC_size]) (natC_one _) ?_
   clear r2
   intro z2001 r2 k
   simp only [Act.put]
   replace sb := sb.trans (k.below w.heap.size sb.size (by simp <;> omega))
   clear k
   refine pw_move (by rfl) (.inr rfl) rfl ?_
   simp only [Act.put, pu]
   refine pw_value (by rfl) (.int .i64 4) (fun _ => rfl) ?_
   simp only [Act.put, pu]
   refine pw_nil ?_
   go_wp2
   exact ret_rvv rfl _ rfl r2 4 _ Try.underlying51 (by exact size_nat) _ rfl _ rfl rfl ⟨rfl, sb⟩
 ·rw [if_neg h, if_neg h, if_neg h]
  have h1 : 0 < l.length := by omega
  have hnt := fun w' => ntake_any ⟨((l.take (1 + b)).drop 1).toArray⟩ w'
  obtain ⟨s, hs⟩ : ∃ s, (l.take (1 + b)).drop 1 = s := ⟨_, rfl⟩
  rw [hs] at hnt ⊢
  generalize takeN ⟨s.toArray⟩ = A at *
  generalize takeE ⟨s.toArray⟩ = E at *
  go_enter Try.func59, Try.ntmps59
  have sb := sbmk w
  (repeat ((fail_if_success with_reducible refine rg ?_); go_step))
  refine wp_region_pw ?_
  refine pw_new (by rfl) 51 rfl _ zero_nat ?_
  intro g2 z0 n0 r2 k
  simp only [Act.put, pu]
  have b2 := Nat.le_trans sb.size n0
  clear n0
  replace sb := sb.trans (k.below w.heap.size sb.size (by simp <;> omega))
  clear k
  refine pw_move (by rfl) (.inr rfl) rfl ?_
  simp only [Act.put, pu]
  refine pw_value (by rfl) (.int .i64 0) (fun _ => rfl) ?_
  simp only [Act.put, pu]
  refine pw_nil ?_
  (repeat ((fail_if_success with_reducible refine rg ?_); go_step))
  refine wp_region_pw ?_
  refine pw_mv (by rfl) rfl rfl ?_
  simp only [Act.put, pu]
  refine pw_value (by rfl) (.int .i64 (l).length) (y_lenS _ _ rfl l rfl Try.underlying9) ?_
  simp only [Act.put, pu]
  refine pw_value (by rfl) (.bool false) (exec_eql_k .i64 _ _ _ _ rfl l.length 0 rfl rfl false (decide_eq_false (by omega))) ?_
  simp only [Act.put, pu]
  refine pw_mv (by rfl) rfl rfl ?_
  simp only [Act.put, pu]
  refine pw_mv (by rfl) rfl rfl ?_
  simp only [Act.put, pu]
  refine pw_value (by rfl) (.int .i64 (l).length) (y_lenS _ _ rfl l rfl Try.underlying9) ?_
  simp only [Act.put, pu]
  refine pw_mv (by rfl) rfl rfl ?_
  simp only [Act.put, pu]
  refine pw_value (by rfl) (.int .u8 (b : Nat)) (fun w' => (y_index _ _ _ rfl Try.underlying9 l rfl .i64 0 rfl h1 w').trans (by rw [hb])) ?_
  simp only [Act.put, pu]
  refine pw_value (by rfl) (.int .i64 (b : Nat)) (y_conv _ _ _ rfl .u8 .i64 Try.underlying5 Try.underlying3 (b : Nat) _ rfl (by rw [IntKind.wrap_i64]; omega)) ?_
  simp only [Act.put, pu]
  refine pw_value (by rfl) (.bool false) (exec_leq_i _ _ _ _ rfl l.length b rfl rfl false (decide_eq_false (by omega))) ?_
  simp only [Act.put, pu]
  refine pw_pick (by rfl) false (v := .bool false) rfl rfl rfl ?_
  simp only [Act.put, pu]
  refine pw_nil ?_
  (repeat ((fail_if_success with_reducible refine rg ?_); go_step))
  refine wp_region_pw ?_
  refine pw_mv (by rfl) rfl rfl ?_
  simp only [Act.put, pu]
  refine pw_value (by rfl) (.int .u8 (b : Nat)) (fun w' => (y_index _ _ _ rfl Try.underlying9 l rfl .i64 0 rfl h1 w').trans (by rw [hb])) ?_
  simp only [Act.put, pu]
  refine pw_value (by rfl) (.int .i64 (b : Nat)) (y_conv _ _ _ rfl .u8 .i64 Try.underlying5 Try.underlying3 (b : Nat) _ rfl (by rw [IntKind.wrap_i64]; omega)) ?_
  simp only [Act.put, pu]
  refine pw_value (by rfl) (.int .i64 ((1 + b : Nat) : Int)) (exec_add_in _ _ _ _ rfl 1 b rfl rfl (by omega)) ?_
  simp only [Act.put, pu]
  refine pw_as (by rfl) rfl rfl ?_
  simp only [Act.put, pu]
  refine pw_nil ?_
  (repeat ((fail_if_success with_reducible refine rg ?_); go_step))
  refine wp_region_pw ?_
  refine pw_mv (by rfl) rfl rfl ?_
  simp only [Act.put, pu]
  refine pw_mv (by rfl) rfl rfl ?_
  simp only [Act.put, pu]
  refine pw_value (by rfl) (.string ⟨(s).toArray⟩) (y_mid _ _ _ _ Try.underlying9 rfl l 1 (1 + b) rfl rfl rfl (by omega) (by omega) _ hs) ?_
  simp only [Act.put, pu]
  refine pw_callB (by rfl) 35 _ _ rfl Try.func35 (by kernel_rfl) #[.string ⟨(s).toArray⟩] rfl _ (hnt _) ?_
  intro z4003 k
  simp only [Act.put, pu]
  replace r2 := k.row r2 (by simp <;> omega)
  replace sb := sb.trans (k.below w.heap.size sb.size (by simp <;> omega))
  clear k
  refine pw_mv (by rfl) rfl rfl ?_
  simp only [Act.put, pu]
  refine pw_ext (by rfl) rfl rfl rfl ?_
  simp only [Act.put, pu]
  refine pw_ext (by rfl) rfl rfl rfl ?_
  simp only [Act.put, pu]
  refine pw_new (by rfl) 51 rfl _ zero_nat ?_
  intro g6 z4007 n0 r6 k
  simp only [Act.put, pu]
  have d2x6 := Nat.lt_of_lt_of_le r2.lt n0
  have b6 := Nat.le_trans sb.size n0
  clear n0
  replace r2 := k.row r2 (by simp <;> omega)
  replace sb := sb.trans (k.below w.heap.size sb.size (by simp <;> omega))
  clear k
  refine pw_put (by rfl) 51 _ _ rfl _ rfl r6 (natC A) rfl (by exact size_nat) (by simp only [natC_size]) (natC_one _) ?_
  clear r6
  intro z4008 r6 k
  simp only [Act.put]
  replace r2 := k.row r2 (by simp <;> omega)
  replace sb := sb.trans (k.below w.heap.size sb.size (by simp <;> omega))
  clear k
  refine pw_as (by rfl) rfl rfl ?_
  simp only [Act.put, pu]
  refine pw_nil ?_
  (repeat ((fail_if_success with_reducible refine rg ?_); go_step))
  apply wp_region_mix (by kernel_rfl) [(g2, 51, natC 0)] [_, _, _, _, _, _, _, _] ⟨r2, trivial⟩ (by simp <;> omega)
  ·intro p
   refine mx_load 51 _ rfl _ rfl r6 (by simp <;> omega) 4 _ Try.underlying51 size_nat ?_
   simp only [Act.put, pu]
   refine mx_move rfl rfl ?_
   simp only [Act.put, pu]
   refine mx_move rfl rfl ?_
   simp only [Act.put, pu]
   refine mx_val (.string ⟨(l.drop (1 + b)).toArray⟩) (y_from _ _ _ Try.underlying9 rfl l (1 + b) rfl rfl (by omega)) ?_
   simp only [Act.put, pu]
   refine mx_move rfl rfl ?_
   simp only [Act.put, pu]
   refine mx_put 0 51 _ _ rfl rfl rfl (natC A) rfl (by exact size_nat) (by simp only [natC_size]) (natC_one _) ?_
   simp only [Act.put]
   refine mx_asg rfl rfl ?_
   simp only [Act.put, pu]
   refine mx_asg rfl rfl ?_
   simp only [Act.put, pu]
   refine mx_end ?_
   intro w5 hkw hrw hnew hdis
   have zr2 : Row w5 (g2) (natC A) 51 := hrw 0 (51, natC A) rfl
   replace sb := sb.trans (hkw.below w.heap.size sb.size (by simp <;> omega))
   clear hkw hrw hnew hdis r2
   have r2 := zr2
   clear zr2
   go_wp2
   exact ret_rvv rfl _ rfl r2 4 _ Try.underlying51 (by exact size_nat) _ rfl _ rfl rfl ⟨rfl, sb⟩
  ·kernel_rfl
theorem ccB_is {n k : Nat} (h : ccB n k = true) : 1 ≤ n ∧ n ≤ 25 ∧ 1 ≤ k ∧ k ≤ 7 := by
 simp only [ccB, Bool.and_eq_true, decide_eq_true_eq] at h
 obtain ⟨⟨⟨h1, h2⟩, h3⟩, h4⟩ := h
 exact ⟨by omega, by omega, by omega, by omega⟩
theorem xm_few {l : List UInt8} (h : l.length < 2 ∨ ccB (yb l 0) (yb l 1) = false) : (∀ n k G, XmV n k G → l ≠ xmL n k G) := fun n k G hv he => by
 subst he
 obtain h | h := h
 ·exact absurd h (by simp [xmL])
 ·have e0 : yb (xmL n k G) 0 = n := by
   show (UInt8.ofNat n).toNat = n
   rw [UInt8.toNat_ofNat']
   exact Nat.mod_eq_of_lt (by have := hv.n2; omega)
  have e1 : yb (xmL n k G) 1 = k := by
   show (UInt8.ofNat k).toNat = k
   rw [UInt8.toNat_ofNat']
   exact Nat.mod_eq_of_lt (by have := hv.k2; omega)
  have := hv.n1; have := hv.n2; have := hv.k1; have := hv.k2
  rw [e0, e1] at h
  unfold ccB at h
  rw [decide_eq_true (by omega), decide_eq_true (by omega), decide_eq_true (by omega), decide_eq_true (by omega)] at h
  cases h
theorem two_bytes {l : List UInt8} (h : 2 ≤ l.length) : l = UInt8.ofNat (yb l 0) :: UInt8.ofNat (yb l 1) :: l.drop 2 := by
 match l, h with
 | a :: b :: r, _ => simp [yb]
set_option maxRecDepth 100000 in
set_option maxHeartbeats 2000000 in
theorem mtake_any (l : List UInt8) (w : World) (hl : l.length < 4611686018427387904) :
  Calls Try.prog 33 #[.string ⟨(l).toArray⟩] w fun e w' => ((∃ n k G gM R, XmV n k G ∧ l = xmL n k G ∧ e = .returned (.tuple #[.slice (some ⟨gM, 0, none⟩) n n, .int .i64 0]) ∧ w.heap.size ≤ gM ∧ Row w' gM (vsC n (fun j => .slice (some ⟨R j, 0, none⟩) k k)) 27 ∧ FamAt w' w.heap.size k R (fun a b => G (a * k + b)) n) ∨ ((∀ n k G, XmV n k G → l ≠ xmL n k G) ∧ e = .returned (.tuple #[.slice none 0 0, .int .i64 4]))) ∧ Below w.heap.size w w' := by
 by_cases h2 : l.length < 2
 ·have HN : Hid (∀ n k G, XmV n k G → l ≠ xmL n k G) := xm_few (.inl h2)
  go_enter Try.func33, Try.ntmps33
  have sb := sbmk w
  (repeat ((fail_if_success with_reducible refine rg ?_); go_step))
  refine wp_region_pw ?_
  refine pw_move (by rfl) (.inr rfl) rfl ?_
  simp only [Act.put, pu]
  refine pw_value (by rfl) (.int .i64 0) (fun _ => rfl) ?_
  simp only [Act.put, pu]
  refine pw_nil ?_
  (repeat ((fail_if_success with_reducible refine rg ?_); go_step))
  refine wp_region_qw (by kernel_rfl) (by kernel_rfl) ?_
  refine qw_move (by rfl) rfl rfl ?_
  simp only [Act.put, pu]
  refine qw_value (by rfl) (.int .i64 (l).length) (y_lenS _ _ rfl l rfl Try.underlying9) ?_
  simp only [Act.put, pu]
  refine qw_value (by rfl) (.bool true) (exec_lt_b _ _ _ _ rfl l.length 2 rfl rfl true (decide_eq_true (by omega))) ?_
  simp only [Act.put, pu]
  refine qw_move (by rfl) rfl rfl ?_
  simp only [Act.put, pu]
  refine qw_skip (by rfl) ?_
  simp only [Act.put, pu]
  refine qw_skip (by rfl) ?_
  simp only [Act.put, pu]
  refine qw_skip (by rfl) ?_
  simp only [Act.put, pu]
  refine qw_skip (by rfl) ?_
  simp only [Act.put, pu]
  refine qw_skip (by rfl) ?_
  simp only [Act.put, pu]
  refine qw_skip (by rfl) ?_
  simp only [Act.put, pu]
  refine qw_skip (by rfl) ?_
  simp only [Act.put, pu]
  refine qw_skip (by rfl) ?_
  simp only [Act.put, pu]
  refine qw_pick true (v := .bool true) (by rfl) rfl rfl rfl ?_
  simp only [Act.put, pu]
  refine qw_nil ?_
  intro w1 hqb
  replace sb := below_on sb (Nat.le_refl _) hqb
  clear hqb
  (repeat ((fail_if_success with_reducible refine rg ?_); go_step))
  refine wp_region_pw ?_
  refine pw_move (by rfl) (.inr rfl) rfl ?_
  simp only [Act.put, pu]
  refine pw_value (by rfl) (.int .i64 4) (fun _ => rfl) ?_
  simp only [Act.put, pu]
  refine pw_nil ?_
  go_wp2
  go_ret2
  exact ⟨.inr ⟨HN.out, rfl⟩, sb⟩
 have hlt0 := yb_lt l 0
 have hlt1 := yb_lt l 1
 have HX := two_bytes (l := l) (by omega)
 have HF : ccB (yb l 0) (yb l 1) = false → (∀ n k G, XmV n k G → l ≠ xmL n k G) := fun h => xm_few (.inr h)
 obtain ⟨n, h0⟩ : ∃ n, yb l 0 = n := ⟨_, rfl⟩
 obtain ⟨k, h1⟩ : ∃ k, yb l 1 = k := ⟨_, rfl⟩
 rw [h0] at hlt0 HX HF
 rw [h1] at hlt1 HX HF
 have hcc := fun w' => counts_any n k w'
 cases hB : ccB n k
 ·rw [hB] at hcc
  have HN : Hid (∀ n k G, XmV n k G → l ≠ xmL n k G) := HF hB
  clear HF HX hB
  go_enter Try.func33, Try.ntmps33
  have sb := sbmk w
  (repeat ((fail_if_success with_reducible refine rg ?_); go_step))
  refine wp_region_pw ?_
  refine pw_move (by rfl) (.inr rfl) rfl ?_
  simp only [Act.put, pu]
  refine pw_value (by rfl) (.int .i64 0) (fun _ => rfl) ?_
  simp only [Act.put, pu]
  refine pw_nil ?_
  (repeat ((fail_if_success with_reducible refine rg ?_); go_step))
  refine wp_region_qw (by kernel_rfl) (by kernel_rfl) ?_
  refine qw_move (by rfl) rfl rfl ?_
  simp only [Act.put, pu]
  refine qw_value (by rfl) (.int .i64 (l).length) (y_lenS _ _ rfl l rfl Try.underlying9) ?_
  simp only [Act.put, pu]
  refine qw_value (by rfl) (.bool false) (exec_lt_b _ _ _ _ rfl l.length 2 rfl rfl false (decide_eq_false (by omega))) ?_
  simp only [Act.put, pu]
  refine qw_move (by rfl) rfl rfl ?_
  simp only [Act.put, pu]
  refine qw_move (by rfl) rfl rfl ?_
  simp only [Act.put, pu]
  refine qw_value (by rfl) (.int .u8 (n : Nat)) (fun w' => (y_index _ _ _ rfl Try.underlying9 l rfl .i64 0 rfl (by omega) w').trans (by rw [h0])) ?_
  simp only [Act.put, pu]
  refine qw_value (by rfl) (.int .i64 (n : Nat)) (y_conv _ _ _ rfl .u8 .i64 Try.underlying5 Try.underlying3 (n : Nat) _ rfl (by rw [IntKind.wrap_i64]; omega)) ?_
  simp only [Act.put, pu]
  refine qw_move (by rfl) rfl rfl ?_
  simp only [Act.put, pu]
  refine qw_value (by rfl) (.int .u8 (k : Nat)) (fun w' => (y_index _ _ _ rfl Try.underlying9 l rfl .i64 1 rfl (by omega) w').trans (by rw [h1])) ?_
  simp only [Act.put, pu]
  refine qw_value (by rfl) (.int .i64 (k : Nat)) (y_conv _ _ _ rfl .u8 .i64 Try.underlying5 Try.underlying3 (k : Nat) _ rfl (by rw [IntKind.wrap_i64]; omega)) ?_
  simp only [Act.put, pu]
  refine qw_call (by rfl) 58 _ _ rfl Try.func58 (by kernel_rfl) #[.int .i64 (n : Nat), .int .i64 (k : Nat)] rfl _ hcc ?_
  simp only [Act.put, pu]
  refine qw_value (by rfl) (.bool true) (exec_not _ _ rfl false rfl) ?_
  simp only [Act.put, pu]
  refine qw_pick false (v := .bool true) (by rfl) rfl rfl rfl ?_
  simp only [Act.put, pu]
  refine qw_nil ?_
  intro w1 hqb
  replace sb := below_on sb (Nat.le_refl _) hqb
  clear hqb
  (repeat ((fail_if_success with_reducible refine rg ?_); go_step))
  refine wp_region_pw ?_
  refine pw_move (by rfl) (.inr rfl) rfl ?_
  simp only [Act.put, pu]
  refine pw_value (by rfl) (.int .i64 4) (fun _ => rfl) ?_
  simp only [Act.put, pu]
  refine pw_nil ?_
  go_wp2
  go_ret2
  exact ⟨.inr ⟨HN.out, rfl⟩, sb⟩
 obtain ⟨n1, n2, k1, k2⟩ := ccB_is hB
 rw [hB] at hcc
 clear HF hB
 obtain ⟨r0, hr⟩ : ∃ r0, l.drop 2 = r0 := ⟨_, rfl⟩
 rw [hr] at HX
 have HX2 : Hid (l = UInt8.ofNat n :: UInt8.ofNat k :: r0) := HX
 have HNo : Hid (∀ t, t < n * k → (∀ s, s < t → tkE (tkS r0 s) = 0) → tkE (tkS r0 t) = 4 → (∀ n k G, XmV n k G → l ≠ xmL n k G)) := fun t ht hs hE n' k' G' hv => by
  obtain ⟨e1, e2⟩ := tkS_is r0 t hs
  exact xm_no (n := n) (k := k) (t := t) (G := tkG r0) (r := tkS r0 t) (by omega) (by omega) (by rw [← e1]; exact HX) e2 ht (by rw [tkN_eq, hE]; rfl) hv
 have HRe : Hid ((∀ s, s < n * k → tkE (tkS r0 s) = 0) → tkS r0 (n * k) ≠ [] → (∀ n k G, XmV n k G → l ≠ xmL n k G)) := fun hs hE n' k' G' hv => by
  obtain ⟨e1, e2⟩ := tkS_is r0 (n * k) hs
  exact xm_rest (n := n) (k := k) (G := tkG r0) (r := tkS r0 (n * k)) (by omega) (by omega) (by rw [← e1]; exact HX) e2 hE hv
 have HOk : Hid ((∀ s, s < n * k → tkE (tkS r0 s) = 0) → tkS r0 (n * k) = [] → XmV n k (tkG r0) ∧ l = xmL n k (tkG r0)) := fun hs hE => by
  obtain ⟨e1, e2⟩ := tkS_is r0 (n * k) hs
  rw [hE, List.append_nil] at e1
  exact ⟨⟨n1, n2, k1, k2, e2⟩, by rw [HX]; unfold xmL; rw [← e1]⟩
 have HLr : Hid (∀ t, (tkS r0 t).length < 4611686018427387904) := fun t => by
  induction t with
  | zero => show r0.length < _; rw [← hr, List.length_drop]; omega
  | succ t ih =>
   show (tkR (tkS r0 t)).length < _
   unfold tkR
   split
   ·decide
   ·rw [List.length_drop]; omega
 clear HX
 obtain ⟨ie, hie, hze, hsz, hby⟩ := info_nat'
 obtain ⟨is', his, hzs, hszs, hbys⟩ := info_slb
 go_enter Try.func33, Try.ntmps33
 have sb := sbmk w
 (repeat ((fail_if_success with_reducible refine rg ?_); go_step))
 refine wp_region_pw ?_
 refine pw_move (by rfl) (.inr rfl) rfl ?_
 simp only [Act.put, pu]
 refine pw_value (by rfl) (.int .i64 0) (fun _ => rfl) ?_
 simp only [Act.put, pu]
 refine pw_nil ?_
 (repeat ((fail_if_success with_reducible refine rg ?_); go_step))
 refine wp_region_qw (by kernel_rfl) (by kernel_rfl) ?_
 refine qw_move (by rfl) rfl rfl ?_
 simp only [Act.put, pu]
 refine qw_value (by rfl) (.int .i64 (l).length) (y_lenS _ _ rfl l rfl Try.underlying9) ?_
 simp only [Act.put, pu]
 refine qw_value (by rfl) (.bool false) (exec_lt_b _ _ _ _ rfl l.length 2 rfl rfl false (decide_eq_false (by omega))) ?_
 simp only [Act.put, pu]
 refine qw_move (by rfl) rfl rfl ?_
 simp only [Act.put, pu]
 refine qw_move (by rfl) rfl rfl ?_
 simp only [Act.put, pu]
 refine qw_value (by rfl) (.int .u8 (n : Nat)) (fun w' => (y_index _ _ _ rfl Try.underlying9 l rfl .i64 0 rfl (by omega) w').trans (by rw [h0])) ?_
 simp only [Act.put, pu]
 refine qw_value (by rfl) (.int .i64 (n : Nat)) (y_conv _ _ _ rfl .u8 .i64 Try.underlying5 Try.underlying3 (n : Nat) _ rfl (by rw [IntKind.wrap_i64]; omega)) ?_
 simp only [Act.put, pu]
 refine qw_move (by rfl) rfl rfl ?_
 simp only [Act.put, pu]
 refine qw_value (by rfl) (.int .u8 (k : Nat)) (fun w' => (y_index _ _ _ rfl Try.underlying9 l rfl .i64 1 rfl (by omega) w').trans (by rw [h1])) ?_
 simp only [Act.put, pu]
 refine qw_value (by rfl) (.int .i64 (k : Nat)) (y_conv _ _ _ rfl .u8 .i64 Try.underlying5 Try.underlying3 (k : Nat) _ rfl (by rw [IntKind.wrap_i64]; omega)) ?_
 simp only [Act.put, pu]
 refine qw_call (by rfl) 58 _ _ rfl Try.func58 (by kernel_rfl) #[.int .i64 (n : Nat), .int .i64 (k : Nat)] rfl _ hcc ?_
 simp only [Act.put, pu]
 refine qw_value (by rfl) (.bool false) (exec_not _ _ rfl true rfl) ?_
 simp only [Act.put, pu]
 refine qw_pick false (v := .bool false) (by rfl) rfl rfl rfl ?_
 simp only [Act.put, pu]
 refine qw_nil ?_
 intro w1 hqb
 replace sb := below_on sb (Nat.le_refl _) hqb
 clear hqb
 clear hcc
 (repeat ((fail_if_success with_reducible refine rg ?_); go_step))
 refine wp_region_pw ?_
 refine pw_mv (by rfl) rfl rfl ?_
 simp only [Act.put, pu]
 refine pw_value (by rfl) (.string ⟨(r0).toArray⟩) (fun w' => (y_from _ _ _ Try.underlying9 rfl l 2 rfl rfl (by omega) w').trans (by rw [hr])) ?_
 simp only [Act.put, pu]
 refine pw_as (by rfl) rfl rfl ?_
 simp only [Act.put, pu]
 refine pw_nil ?_
 (repeat ((fail_if_success with_reducible refine rg ?_); go_step))
 refine wp_region_pw ?_
 refine pw_mv (by rfl) rfl rfl ?_
 simp only [Act.put, pu]
 refine pw_value (by rfl) (.int .u8 (n : Nat)) (fun w' => (y_index _ _ _ rfl Try.underlying9 l rfl .i64 0 rfl (by omega) w').trans (by rw [h0])) ?_
 simp only [Act.put, pu]
 refine pw_make8 (by rfl) 26 27 _ _ rfl is' _ Try.underlying26 his hzs n rfl rfl (by rw [hszs]; omega) (by rw [hbys]; omega) (by omega) ?_
 intro gM z4002 n0 rM k
 simp only [Act.put, pu]
 have bM := Nat.le_trans sb.size n0
 clear n0
 replace sb := sb.trans (k.below w.heap.size sb.size (by simp <;> omega))
 clear k
 refine pw_as (by rfl) rfl rfl ?_
 simp only [Act.put, pu]
 refine pw_nil ?_
 rw [hszs, made_vs n _ rfl] at rM
 (repeat ((fail_if_success with_reducible refine rg ?_); go_step))
 refine wp_region_pw ?_
 refine pw_mv (by rfl) rfl rfl ?_
 simp only [Act.put, pu]
 refine pw_value (by rfl) (.int .i64 n) (exec_len_s 26 _ rfl (some ⟨gM, 0, none⟩) (n) (n) rfl sl_mx) ?_
 simp only [Act.put, pu]
 refine pw_value (by rfl) (.int .i64 0) (fun _ => rfl) ?_
 simp only [Act.put, pu]
 refine pw_nil ?_
 go_wp2_with fail
 go_loopg [4, 6, 29] n (fun x s4 s6 s29 wr => ∃ i : Nat, ∃ R : Nat → Nat, i + x = n ∧ s29 = .int .i64 i ∧ s4 = .string ⟨(tkS r0 (i * k)).toArray⟩ ∧ (∀ s, s < i * k → tkE (tkS r0 s) = 0) ∧ Row wr gM (vsC n (fun j => if j < i then .slice (some ⟨R j, 0, none⟩) k k else .slice none 0 0)) 27 ∧ FamAt wr w.heap.size k R (fun a b => tkG r0 (a * k + b)) i ∧ (∀ j, j < i → R j ≠ gM) ∧ Below w.heap.size w wr)
 case atStart => exact ⟨0, fun _ => 0, by omega, rfl, by rw [Nat.zero_mul]; rfl, fun s hs => absurd hs (by omega), by rw [vsC_congr (T := fun _ => .slice none 0 0) (fun j _ => if_neg (by omega))]; exact rM, fam_nil _ _ _ _ _, fun j hj => absurd hj (by omega), sb⟩
 case round =>
  clear rM sb
  obtain ⟨i, R, hi, rfl, rfl, hok, rM, hW, hWxM, sb⟩ := hrel
  cases gk with
  | zero =>
   have hin : n = i := by omega
   clear hi
   subst hin
   rw [vsC_congr (T := fun j => .slice (some ⟨R j, 0, none⟩) k k) (fun j hj => if_pos hj)] at rM
   have HK : Hid (∀ s, s < n * k → tkE (tkS r0 s) = 0) := hok
   clear hok HNo HLr
   by_cases hE : tkS r0 (n * k) = []
   ·obtain ⟨e1, e2⟩ := HOk.out HK.out hE
    have HV : Hid (XmV n k (tkG r0)) := e1
    have HQ : Hid (l = xmL n k (tkG r0)) := e2
    rw [hE]
    clear e1 e2 HRe HOk HX2 hE
    (repeat ((fail_if_success with_reducible refine rg ?_); go_step))
    refine wp_region_pw ?_
    refine pw_value (by rfl) (.bool false) (exec_lt_b _ _ _ _ rfl n n rfl rfl false (decide_eq_false (Int.lt_irrefl _))) ?_
    simp only [Act.put, pu]
    refine pw_nil ?_
    (repeat ((fail_if_success with_reducible refine rg ?_); go_step))
    refine wp_region_pw ?_
    refine pw_mv (by rfl) rfl rfl ?_
    simp only [Act.put, pu]
    refine pw_value (by rfl) (.bool false) (y_neS _ _ _ _ rfl [] [] rfl rfl false rfl) ?_
    simp only [Act.put, pu]
    refine pw_nil ?_
    (repeat ((fail_if_success with_reducible refine rg ?_); go_step))
    refine wp_region_pw ?_
    refine pw_mv (by rfl) rfl rfl ?_
    simp only [Act.put, pu]
    refine pw_as (by rfl) rfl rfl ?_
    simp only [Act.put, pu]
    refine pw_value (by rfl) (.int .i64 0) (fun _ => rfl) ?_
    simp only [Act.put, pu]
    refine pw_nil ?_
    go_wp2
    go_ret2
    exact ⟨.inl ⟨n, k, _, gM, R, HV.out, HQ.out, rfl, bM, rM, hW⟩, sb⟩
   ·have HN : Hid (∀ n k G, XmV n k G → l ≠ xmL n k G) := HRe.out HK.out hE
    clear HRe HOk HX2
    generalize tkS r0 (n * k) = L at *
    have hne : decide (L = []) = !true := decide_eq_false hE
    clear hE
    (repeat ((fail_if_success with_reducible refine rg ?_); go_step))
    refine wp_region_pw ?_
    refine pw_value (by rfl) (.bool false) (exec_lt_b _ _ _ _ rfl n n rfl rfl false (decide_eq_false (Int.lt_irrefl _))) ?_
    simp only [Act.put, pu]
    refine pw_nil ?_
    (repeat ((fail_if_success with_reducible refine rg ?_); go_step))
    refine wp_region_pw ?_
    refine pw_mv (by rfl) rfl rfl ?_
    simp only [Act.put, pu]
    refine pw_value (by rfl) (.bool true) (y_neS _ _ _ _ rfl L [] rfl rfl true hne) ?_
    simp only [Act.put, pu]
    refine pw_nil ?_
    (repeat ((fail_if_success with_reducible refine rg ?_); go_step))
    refine wp_region_pw ?_
    refine pw_move (by rfl) (.inr rfl) rfl ?_
    simp only [Act.put, pu]
    refine pw_value (by rfl) (.int .i64 4) (fun _ => rfl) ?_
    simp only [Act.put, pu]
    refine pw_nil ?_
    go_wp2
    go_ret2
    exact ⟨.inr ⟨HN.out, rfl⟩, sb⟩
  | succ x =>
   have hlt : i < n := by omega
   have hpW : ∀ gN, (vsC n (fun j => if j < i then .slice (some ⟨R j, 0, none⟩) k k else .slice none 0 0)).setIfInBounds (0 + i * 1) (.slice (some ⟨gN, 0, none⟩) k k) = vsC n (fun j => if j < i + 1 then .slice (some ⟨upR R i gN j, 0, none⟩) k k else .slice none 0 0) := fun gN => by
    rw [show 0 + i * 1 = i by omega]
    refine vsC_put hlt ?_ (fun j hj hne => ?_)
    ·show (ite _ _ _ : Value) = _
     rw [if_pos (by omega), upR_at]
    ·show (ite _ _ _ : Value) = ite _ _ _
     by_cases h2 : j < i
     ·rw [if_pos h2, if_pos (by omega), upR_lt R h2]
     ·rw [if_neg h2, if_neg (by omega)]
   (repeat ((fail_if_success with_reducible refine rg ?_); go_step))
   refine wp_region_pw ?_
   refine pw_value (by rfl) (.bool true) (exec_lt_b _ _ _ _ rfl i n rfl rfl true (decide_eq_true (by omega))) ?_
   simp only [Act.put, pu]
   refine pw_nil ?_
   (repeat ((fail_if_success with_reducible refine rg ?_); go_step))
   refine wp_region_pw ?_
   refine pw_mv (by rfl) rfl rfl ?_
   simp only [Act.put, pu]
   refine pw_as (by rfl) rfl rfl ?_
   simp only [Act.put, pu]
   refine pw_nil ?_
   (repeat ((fail_if_success with_reducible refine rg ?_); go_step))
   refine wp_region_pw ?_
   refine pw_mv (by rfl) rfl rfl ?_
   simp only [Act.put, pu]
   refine pw_mv (by rfl) rfl rfl ?_
   simp only [Act.put, pu]
   refine pw_mv (by rfl) rfl rfl ?_
   simp only [Act.put, pu]
   refine pw_value (by rfl) (.int .u8 (k : Nat)) (fun w' => (y_index _ _ _ rfl Try.underlying9 l rfl .i64 1 rfl (by omega) w').trans (by rw [h1])) ?_
   simp only [Act.put, pu]
   refine pw_make8 (by rfl) 27 51 _ _ rfl ie _ Try.underlying27 hie hze k rfl rfl (by rw [hsz]; omega) (by rw [hby]; omega) (by omega) ?_
   intro gN z8004 n0 rN k
   simp only [Act.put, pu]
   have dMxN := Nat.lt_of_lt_of_le rM.lt n0
   have hWxN := fun j hj => Nat.ne_of_lt (Nat.lt_of_lt_of_le (hW.lt (j := j) hj) n0)
   have bN := Nat.le_trans sb.size n0
   clear n0
   replace rM := k.row rM (by simp <;> omega)
   replace hW := hW.below k.nil
   replace sb := sb.trans (k.below w.heap.size sb.size (by simp <;> omega))
   clear k
   refine pw_value (by rfl) (.pointer (some ⟨gM, 0 + i * 1, none⟩)) ((exec_index_s 26 _ _ rfl (gM) (0) (n) (n) rfl (i) rfl (hlt) _ Try.underlying26 1 Try.sizeOf27)) ?_
   simp only [Act.put, pu]
   refine pw_putv (by rfl) 27 _ _ rfl _ (0 + i * 1) rfl rM (.slice (some ⟨gN, 0, none⟩) k k) rfl rfl rfl size1tapiat (by rw [vsC_size]; omega) ((vsC n (fun j => if j < i + 1 then .slice (some ⟨upR R i gN j, 0, none⟩) k k else .slice none 0 0))) (hpW gN) ?_
   clear rM
   intro z8006 rM k
   simp only [Act.put]
   replace hW := hW.on k (fun j hj => by simpa using hWxM j hj)
   replace rN := k.row rN (by simp <;> omega)
   replace sb := sb.trans (k.below w.heap.size sb.size (by simp <;> omega))
   clear k
   refine pw_nil ?_
   rw [hsz, made_nats] at rN
   clear hpW
   have hMg : (vsC n (fun j => if j < i + 1 then .slice (some ⟨upR R i gN j, 0, none⟩) k k else .slice none 0 0) : Array Value)[0 + i * 1]? = some (.slice (some ⟨gN, 0, none⟩) k k) := by
    rw [show 0 + i * 1 = i by omega, vsC_get _ hlt, if_pos (by omega), upR_at]
   have hNM : gN ≠ gM := by omega
   obtain ⟨CM, hCM⟩ : ∃ CM : Array Value, CM = vsC n (fun j => if j < i + 1 then .slice (some ⟨upR R i gN j, 0, none⟩) k k else .slice none 0 0) := ⟨_, rfl⟩
   have HCM : Hid (CM = vsC n (fun j => if j < i + 1 then .slice (some ⟨upR R i gN j, 0, none⟩) k k else .slice none 0 0)) := hCM
   rw [← hCM] at rM hMg
   clear hCM
   (repeat ((fail_if_success with_reducible refine rg ?_); go_step))
   refine wp_region_pw ?_
   refine pw_mv (by rfl) rfl rfl ?_
   simp only [Act.put, pu]
   refine pw_mv (by rfl) rfl rfl ?_
   simp only [Act.put, pu]
   refine pw_value (by rfl) (.pointer (some ⟨gM, 0 + i * 1, none⟩)) ((exec_index_s 26 _ _ rfl (gM) (0) (n) (n) rfl (i) rfl (hlt) _ Try.underlying26 1 Try.sizeOf27)) ?_
   simp only [Act.put, pu]
   refine pw_loadk (by rfl) 27 _ rfl _ (0 + i * 1) rfl rM.r (.slice (some ⟨gN, 0, none⟩) k k) hMg Try.isAgg27 ?_
   simp only [Act.put, pu]
   refine pw_value (by rfl) (.int .i64 k) (exec_len_s 27 _ rfl (some ⟨gN, 0, none⟩) (k) (k) rfl sl_natsX) ?_
   simp only [Act.put, pu]
   refine pw_value (by rfl) (.int .i64 0) (fun _ => rfl) ?_
   simp only [Act.put, pu]
   refine pw_nil ?_
   go_wp2_with fail
   go_loopg [4, 7, 43] k (fun y s4 s7 s43 wr => ∃ j : Nat, j + y = k ∧ s43 = .int .i64 j ∧ s4 = .string ⟨(tkS r0 (i * k + j)).toArray⟩ ∧ (∀ s, s < i * k + j → tkE (tkS r0 s) = 0) ∧ Row wr gM CM 27 ∧ Row wr gN (nsC k (fun b => if b < j then tkG r0 (i * k + b) else 0)) 51 ∧ FamAt wr w.heap.size k R (fun a b => tkG r0 (a * k + b)) i ∧ Below w.heap.size w wr)
   case atStart => exact ⟨0, by omega, rfl, rfl, hok, rM, by rw [show (fun b => if b < 0 then tkG r0 (i * k + b) else 0) = fun _ => 0 from funext fun j => if_neg (by omega)]; exact rN, hW, sb⟩
   case round =>
    clear rM rN hW sb hok
    obtain ⟨j, hj, rfl, rfl, hok, rM, rN, hW, sb⟩ := hrel
    cases gk with
    | zero =>
     have hjk : k = j := by omega
     clear hj
     subst hjk
     rw [nsC_congr k _ ((fun a b => tkG r0 (a * k + b)) i) (fun b hb => if_pos hb)] at rN
     rw [← Nat.succ_mul] at hok ⊢
     have hW2 := hW.add hWxN bN rN
     have hNx : ∀ j, j < i + 1 → upR R i gN j ≠ gM := fun j hj => by
      by_cases e : j = i
      ·subst e; rw [upR_at]; exact hNM
      ·rw [upR_lt R (show j < i by omega)]; exact hWxM j (by omega)
     rw [HCM.out] at rM
     clear hW hWxM hWxN rN HCM hMg hNM
     generalize upR R i gN = R2 at *
     (repeat ((fail_if_success with_reducible refine rg ?_); go_step))
     refine wp_region_pw ?_
     refine pw_value (by rfl) (.bool false) (exec_lt_b _ _ _ _ rfl k k rfl rfl false (decide_eq_false (Int.lt_irrefl _))) ?_
     simp only [Act.put, pu]
     refine pw_nil ?_
     (repeat ((fail_if_success with_reducible refine rg ?_); go_step))
     refine wp_region_pw ?_
     refine pw_value (by rfl) (.int .i64 ((i + 1 : Nat) : Int)) (exec_add_in _ _ _ _ rfl i 1 rfl rfl (by omega)) ?_
     simp only [Act.put, pu]
     refine pw_mv (by rfl) rfl rfl ?_
     simp only [Act.put, pu]
     refine pw_nil ?_
     go_wp2
     go_roundg x
     case measure => omega
     case rel => exact ⟨i + 1, R2, by omega, rfl, rfl, hok, rM, hW2, hNx, sb⟩
    | succ y =>
     have hjk : j < k := by omega
     have hij := ix_lt hlt hjk
     have htk := fun w' => tkn_any (tkS r0 (i * k + j)) w' (HLr.out _)
     rw [show tkA (tkS r0 (i * k + j)) = tkG r0 (i * k + j) from rfl, show tkR (tkS r0 (i * k + j)) = tkS r0 (i * k + (j + 1)) from rfl] at htk
     have hput := nsC_put k (fun b => if b < j then tkG r0 (i * k + b) else 0) (fun b => if b < j + 1 then tkG r0 (i * k + b) else 0) j hjk (0 + j * 4) (by omega) (tkG r0 (i * k + j)) (fun b hb => by
      by_cases hbj : b = j
      ·subst hbj
       rw [if_pos (by omega), if_pos rfl]
      ·rw [if_neg hbj]
       by_cases h2 : b < j
       ·rw [if_pos h2, if_pos (by omega)]
       ·rw [if_neg h2, if_neg (by omega)])
     have hE := tkE_04 (tkS r0 (i * k + j))
     have HE : Hid (tkE (tkS r0 (i * k + j)) = tkE (tkS r0 (i * k + j))) := rfl
     have HNx : Hid (tkE (tkS r0 (i * k + j)) = 4 → (∀ n k G, XmV n k G → l ≠ xmL n k G)) := HNo.out _ hij hok
     have HOx : Hid (tkE (tkS r0 (i * k + j)) = 0 → ∀ s, s < i * k + (j + 1) → tkE (tkS r0 s) = 0) := fun h s hs => by
      by_cases e : s = i * k + j
      ·rw [e]; exact h
      ·exact hok s (by omega)
     clear hok HE
     obtain ⟨L2, hL2⟩ : ∃ L2, L2 = tkS r0 (i * k + (j + 1)) := ⟨_, rfl⟩
     rw [← hL2] at htk
     obtain ⟨L1, hL1⟩ : ∃ L1, tkS r0 (i * k + j) = L1 := ⟨_, rfl⟩
     rw [hL1] at htk hE HNx HOx ⊢
     obtain ⟨E, hEE⟩ : ∃ E, tkE L1 = E := ⟨_, rfl⟩
     rw [hEE] at htk hE HNx HOx
     obtain ⟨X, hX⟩ : ∃ X, tkG r0 (i * k + j) = X := ⟨_, rfl⟩
     rw [hX] at htk hput
     clear hEE hL1 hX
     obtain rfl | rfl := hE
     ·have HO2 := HOx.out rfl
      have HO : Hid (∀ s, s < i * k + (j + 1) → tkE (tkS r0 s) = 0) := HO2
      clear HO2 HOx HNx
      (repeat ((fail_if_success with_reducible refine rg ?_); go_step))
      refine wp_region_pw ?_
      refine pw_value (by rfl) (.bool true) (exec_lt_b _ _ _ _ rfl j k rfl rfl true (decide_eq_true (by omega))) ?_
      simp only [Act.put, pu]
      refine pw_nil ?_
      (repeat ((fail_if_success with_reducible refine rg ?_); go_step))
      refine wp_region_pw ?_
      refine pw_mv (by rfl) rfl rfl ?_
      simp only [Act.put, pu]
      refine pw_as (by rfl) rfl rfl ?_
      simp only [Act.put, pu]
      refine pw_nil ?_
      (repeat ((fail_if_success with_reducible refine rg ?_); go_step))
      refine wp_region_pw ?_
      refine pw_value (by rfl) (.int .i64 0) (fun _ => rfl) ?_
      simp only [Act.put, pu]
      refine pw_nil ?_
      (repeat ((fail_if_success with_reducible refine rg ?_); go_step))
      apply wp_region_mix (by kernel_rfl) [(gN, 51, nsC k (fun b => if b < j then tkG r0 (i * k + b) else 0))] [_, _, _, _, _, _, _, _, _, _, _, _, _, _, _] ⟨rN, trivial⟩ (by simp <;> omega)
      ·intro p
       refine mx_move rfl rfl ?_
       simp only [Act.put, pu]
       refine mx_move rfl rfl ?_
       simp only [Act.put, pu]
       refine mx_val (.pointer (some ⟨gM, 0 + i * 1, none⟩)) ((exec_index_s 26 _ _ rfl (gM) (0) (n) (n) rfl (i) rfl (hlt) _ Try.underlying26 1 Try.sizeOf27)) ?_
       simp only [Act.put, pu]
       refine mx_loadc 27 _ rfl _ (0 + i * 1) rfl rM (by simp <;> omega) (.slice (some ⟨gN, 0, none⟩) k k) hMg Try.isAgg27 ?_
       simp only [Act.put, pu]
       refine mx_move rfl rfl ?_
       simp only [Act.put, pu]
       refine mx_move rfl rfl ?_
       simp only [Act.put, pu]
       refine mx_call 59 _ _ rfl Try.func59 (by kernel_rfl) #[.string ⟨(L1).toArray⟩] rfl _ htk ?_
       simp only [Act.put, pu]
       refine mx_move rfl rfl ?_
       simp only [Act.put, pu]
       refine mx_ext rfl rfl rfl ?_
       simp only [Act.put, pu]
       refine mx_ext rfl rfl rfl ?_
       simp only [Act.put, pu]
       refine mx_ext rfl rfl rfl ?_
       simp only [Act.put, pu]
       refine mx_val (.pointer (some ⟨gN, 0 + j * 4, none⟩)) ((exec_index_s 27 _ _ rfl gN 0 (k) (k) rfl (j) rfl (hjk) _ Try.underlying27 4 size_nat4)) ?_
       simp only [Act.put, pu]
       refine mx_putm 0 51 _ _ rfl (0 + j * 4) rfl rfl (natC X) rfl (by exact size_nat) (by rw [nsC_size, natC_size]; omega) (natC_one _) (nsC k (fun b => if b < j + 1 then tkG r0 (i * k + b) else 0)) hput ?_
       simp only [Act.put]
       refine mx_asg rfl rfl ?_
       simp only [Act.put, pu]
       refine mx_asg rfl rfl ?_
       simp only [Act.put, pu]
       refine mx_end ?_
       intro w2 hkw hrw hnew hdis
       have rN2 : Row w2 gN (nsC k (fun b => if b < j + 1 then tkG r0 (i * k + b) else 0)) 51 := hrw 0 (51, nsC k (fun b => if b < j + 1 then tkG r0 (i * k + b) else 0)) rfl
       replace rM := hkw.row rM (by simp <;> omega)
       replace hW := hW.on hkw (fun a ha => by simpa using hWxN a ha)
       replace sb := sb.trans (hkw.below w.heap.size sb.size (by simp <;> omega))
       clear hkw hrw hnew hdis rN hput htk
       (repeat ((fail_if_success with_reducible refine rg ?_); go_step))
       refine wp_region_pw ?_
       refine pw_mv (by rfl) rfl rfl ?_
       simp only [Act.put, pu]
       refine pw_value (by rfl) (.bool false) (exec_neq_k .i64 _ _ _ _ rfl 0 0 rfl rfl false rfl) ?_
       simp only [Act.put, pu]
       refine pw_nil ?_
       (repeat ((fail_if_success with_reducible refine rg ?_); go_step))
       refine wp_region_pw ?_
       refine pw_value (by rfl) (.int .i64 ((j + 1 : Nat) : Int)) (exec_add_in _ _ _ _ rfl j 1 rfl rfl (by omega)) ?_
       simp only [Act.put, pu]
       refine pw_mv (by rfl) rfl rfl ?_
       simp only [Act.put, pu]
       refine pw_nil ?_
       go_wp2
       go_roundg y
       case measure => omega
       case rel => exact ⟨j + 1, by omega, rfl, by rw [hL2], HO.out, rM, rN2, hW, sb⟩
      ·kernel_rfl
     ·have HN : Hid (∀ n k G, XmV n k G → l ≠ xmL n k G) := HNx.out rfl
      clear HOx HNx
      (repeat ((fail_if_success with_reducible refine rg ?_); go_step))
      refine wp_region_pw ?_
      refine pw_value (by rfl) (.bool true) (exec_lt_b _ _ _ _ rfl j k rfl rfl true (decide_eq_true (by omega))) ?_
      simp only [Act.put, pu]
      refine pw_nil ?_
      (repeat ((fail_if_success with_reducible refine rg ?_); go_step))
      refine wp_region_pw ?_
      refine pw_mv (by rfl) rfl rfl ?_
      simp only [Act.put, pu]
      refine pw_as (by rfl) rfl rfl ?_
      simp only [Act.put, pu]
      refine pw_nil ?_
      (repeat ((fail_if_success with_reducible refine rg ?_); go_step))
      refine wp_region_pw ?_
      refine pw_value (by rfl) (.int .i64 0) (fun _ => rfl) ?_
      simp only [Act.put, pu]
      refine pw_nil ?_
      (repeat ((fail_if_success with_reducible refine rg ?_); go_step))
      apply wp_region_mix (by kernel_rfl) [(gN, 51, nsC k (fun b => if b < j then tkG r0 (i * k + b) else 0))] [_, _, _, _, _, _, _, _, _, _, _, _, _, _, _] ⟨rN, trivial⟩ (by simp <;> omega)
      ·intro p
       refine mx_move rfl rfl ?_
       simp only [Act.put, pu]
       refine mx_move rfl rfl ?_
       simp only [Act.put, pu]
       refine mx_val (.pointer (some ⟨gM, 0 + i * 1, none⟩)) ((exec_index_s 26 _ _ rfl (gM) (0) (n) (n) rfl (i) rfl (hlt) _ Try.underlying26 1 Try.sizeOf27)) ?_
       simp only [Act.put, pu]
       refine mx_loadc 27 _ rfl _ (0 + i * 1) rfl rM (by simp <;> omega) (.slice (some ⟨gN, 0, none⟩) k k) hMg Try.isAgg27 ?_
       simp only [Act.put, pu]
       refine mx_move rfl rfl ?_
       simp only [Act.put, pu]
       refine mx_move rfl rfl ?_
       simp only [Act.put, pu]
       refine mx_call 59 _ _ rfl Try.func59 (by kernel_rfl) #[.string ⟨(L1).toArray⟩] rfl _ htk ?_
       simp only [Act.put, pu]
       refine mx_move rfl rfl ?_
       simp only [Act.put, pu]
       refine mx_ext rfl rfl rfl ?_
       simp only [Act.put, pu]
       refine mx_ext rfl rfl rfl ?_
       simp only [Act.put, pu]
       refine mx_ext rfl rfl rfl ?_
       simp only [Act.put, pu]
       refine mx_val (.pointer (some ⟨gN, 0 + j * 4, none⟩)) ((exec_index_s 27 _ _ rfl gN 0 (k) (k) rfl (j) rfl (hjk) _ Try.underlying27 4 size_nat4)) ?_
       simp only [Act.put, pu]
       refine mx_putm 0 51 _ _ rfl (0 + j * 4) rfl rfl (natC X) rfl (by exact size_nat) (by rw [nsC_size, natC_size]; omega) (natC_one _) (nsC k (fun b => if b < j + 1 then tkG r0 (i * k + b) else 0)) hput ?_
       simp only [Act.put]
       refine mx_asg rfl rfl ?_
       simp only [Act.put, pu]
       refine mx_asg rfl rfl ?_
       simp only [Act.put, pu]
       refine mx_end ?_
       intro w2 hkw hrw hnew hdis
       have rN2 : Row w2 gN (nsC k (fun b => if b < j + 1 then tkG r0 (i * k + b) else 0)) 51 := hrw 0 (51, nsC k (fun b => if b < j + 1 then tkG r0 (i * k + b) else 0)) rfl
       replace rM := hkw.row rM (by simp <;> omega)
       replace hW := hW.on hkw (fun a ha => by simpa using hWxN a ha)
       replace sb := sb.trans (hkw.below w.heap.size sb.size (by simp <;> omega))
       clear hkw hrw hnew hdis rN hput htk
       (repeat ((fail_if_success with_reducible refine rg ?_); go_step))
       refine wp_region_pw ?_
       refine pw_mv (by rfl) rfl rfl ?_
       simp only [Act.put, pu]
       refine pw_value (by rfl) (.bool true) (exec_neq_k .i64 _ _ _ _ rfl 4 0 rfl rfl true rfl) ?_
       simp only [Act.put, pu]
       refine pw_nil ?_
       (repeat ((fail_if_success with_reducible refine rg ?_); go_step))
       refine wp_region_pw ?_
       refine pw_move (by rfl) (.inr rfl) rfl ?_
       simp only [Act.put, pu]
       refine pw_value (by rfl) (.int .i64 4) (fun _ => rfl) ?_
       simp only [Act.put, pu]
       refine pw_nil ?_
       go_wp2
       go_ret2
       exact ⟨.inr ⟨HN.out, rfl⟩, sb⟩
      ·kernel_rfl
end Go.Proofs.Ytojobffihlmfgaa
/- matrix's May, Holds, Share, areIn and their closures. -/
namespace Go.Proofs.Ytojobffihlmfgaa
open Go.RowKit
set_option linter.unusedVariables false
set_option linter.unusedSectionVars false
set_option linter.unusedSimpArgs false
/-- A part's cells. -/
def ptC (i : Int) (v : Value) : Array Value := #[.int .i64 i, v]
end Go.Proofs.Ytojobffihlmfgaa
/- slices.Grow of nil, and slices.Concat, of naturals. -/
namespace Go.Proofs.Ytojobffihlmfgaa
open Go.RowKit
set_option linter.unusedVariables false
set_option linter.unusedSectionVars false
set_option linter.unusedSimpArgs false
section
variable {ops : Array Oper} {Q : Exit → Act → World → Prop} {rest : List Oper} {o : Oper} {a : Act} {w : World}
end
/-- How long the first ones are, one behind the other. -/
def ctS (N : Nat → Nat) : Nat → Nat
 | 0 => 0
 | k + 1 => ctS N k + N k
end Go.Proofs.Ytojobffihlmfgaa
/- Matrices as arguments; the document's Few. -/
namespace Go.Proofs.Ytojobffihlmfgaa
open Go.ChangeShapes Go.WideShapes Go.ChangeAt Go.RowKit
set_option linter.unusedVariables false
set_option linter.unusedSectionVars false
set_option linter.unusedSimpArgs false
end Go.Proofs.Ytojobffihlmfgaa
