/- One region of wire.read: a natural of what is left, into its place. -/
import Derived.Test.YtojobffihlmfgaaWRF
import Derived.Test.YtojobffihlmfgaaWRE
namespace Go.Proofs.Ytojobffihlmfgaa
open Go.RowKit
set_option linter.unusedVariables false
set_option linter.unusedSimpArgs false
set_option linter.unusedSectionVars false
theorem exec_loadkw {P : Program} {o : Oper} {ρ : Operand → Value} (ty : TypeId) (x : Operand) (ho : o.op = .load ty x) (g k : Nat) (hx : ρ x = .pointer (some ⟨g, k, none⟩)) {t : TypeId} {cs : Array Value} (w : World) (hg : RowR w g cs t) (v : Value) (hc : cs[k]? = some v) (ha : ∀ w, (isAgg ty).run P w = .ok false w) : (execOp ρ o).run P w = .ok (.value v) w := by
 unfold execOp
 simp only [ho, hx, Instr.loadAt, Instr.sureAddr, Sem.run_bind, Sem.run_pure, Result.andThen_ok, run_load_cell w g k ty v ha ((hg.cell k).trans hc)]
section
variable {P : Program} {o : Oper} {a : Act} {w : World} {K : Act → World → Prop} {Q : Exit → Act → World → Prop}
/-- A call that returns, or panics, as one step of a region that draws. -/
theorem opw_callQ {fn : Func} (f : FuncId) (args : Array Operand) (ts : Array TypeId)
  (ho : o.op = .call { callee := .value (.func f), args := args, argTypes := ts }) (hf : P.funcs[f]? = some fn) (hb : (fn.name == "runtime.NumGoroutine" || fn.body.isNone) = false)
  (vs : Array Value) (hv' : args.toList.map a.eval = vs.toList)
  (h : Calls P f vs w fun e w' => (∃ v, e = .returned v ∧ K (a.put o.dst v) w') ∨ (∃ ch, e = .panicked ch ∧ Q (.panic ch) a w')) : OpW P o a w K Q := by
 have hv : args.map a.eval = vs := by apply Array.toList_inj.1; rw [Array.toList_map]; exact hv'
 have hr := run_callFunc_body (P := P) hf hb vs w
 have hd : (execOp a.eval o).run P w = .ok (.enter f vs) w := by
  unfold execOp
  simp only [ho, resolve, hv, Act.eval]
  simp [Deferred.ofValue, invoke, hr]
 refine ⟨?_⟩
 unfold Oper.wp
 rw [hd, Oper.upon_enter]
 refine h.mono fun e w' hR => ?_
 rcases hR with ⟨v, rfl, hp⟩ | ⟨ch, rfl, hq⟩
 ·exact hp
 ·exact hq
theorem opw_putm (ty : TypeId) (x y : Operand) (ho : o.op = .store ty x y) (g off : Nat) (hx : a.eval x = .pointer (some ⟨g, off, none⟩)) {t : TypeId} {old : Array Value} (hg : Row w g old t) (sub : Array Value) (hy : a.eval y = .agg sub)
  (hi : (P.info? ty).map (·.size) = some sub.size) (hold : off + sub.size ≤ old.size) (h1 : sub.all (·.oneCell') = true) (c : Array Value) (hc : putL old off sub.toList = c)
  (h : ∀ w', Row w' g c t → Kept [g] w w' → K (a.put o.dst undef) w') : OpW P o a w K Q := by
 subst hc
 refine ⟨?_⟩
 unfold Oper.wp
 have hr : (execOp a.eval o).run P w = .ok .skip (w.setCells g off sub.toList) := by
  unfold execOp
  simp only [ho, hx, hy, Instr.storeAt, Instr.sureAddr, Sem.run_bind, Sem.run_pure, Result.andThen_ok, run_storeVar_mid w _ off ty sub (there_of_row hg off _ hold) hi h1]
 rw [hr]
 exact h _ (Row.setCells _ _ hg) (kept_only (only_setCells _ _ _ _))
end
set_option maxRecDepth 100000 in
set_option maxHeartbeats 4000000 in
theorem rg17_no {rid : Nat} (i n g3 g4 gY : Nat) (cM : Array Value) (f : Nat → Nat) (r : List UInt8) {x0 x1 x2 x5 x7 x8 x9 x10 x11 x12 x13 x14 x15 x16 x17 x18 x19 x20 x21 x22 x23 x24 x25 x26 x27 x28 x29 x30 x31 x32 x33 x34 x35 x36 x37 x38 x39 x40 x41 x42 x43 x44 x45 x46 x47 x48 x49 x50 x51 x52 x53 x54 x55 x56 x57 x58 x59 x60 x61 x62 x63 x64 x65 x66 x67 x68 x69 x70 x71 x72 x73 x74 : Value} {y47 y48 y49 y50 y51 y52 y53 y54 y55 y9 : TypeId} {A50 A51 A54 : Array TypeId} {p47 p48 p49 p50 p51 p52 p53 p54 p55 p0 : String} {W : World} {Q : Exit → Act → World → Prop} (hlt : i < n) (h34 : g3 ≠ g4) (h3Y : g3 ≠ gY) (h4Y : g4 ≠ gY) (r3 : Row W g3 #[.string ⟨r.toArray⟩] 64) (r4 : Row W g4 cM 29) (rY : Row W gY (nsC n f) 51) (hc7 : cM[7]? = some (.slice (some ⟨gY, 0, none⟩) n n)) (hgt : gT r 1 = none)
  (hpan : ∀ a w', a.defers = [] → Kept [g3, gY] W w' → Q (.panic (wrP 4)) a w') :
  (Code.region rid (List.toArray [{ dst := some 47, op := Op.fieldAddr 29 (Operand.tmp 4) 6, type := y47, pos := p47, after := #[], guard := none }, { dst := some 48, op := Op.load 27 (Operand.tmp 47), type := y48, pos := p48, after := #[{ on := 0, ground := Ground.data }], guard := none }, { dst := some 49, op := Op.move (Operand.tmp 6), type := y49, pos := p49, after := #[], guard := none }, { dst := some 50, op := Op.call { callee := Callee.value (Operand.func 31), args := #[Operand.tmp 3, Operand.const (Value.int IntKind.i64 1)], argTypes := A50 }, type := y50, pos := p50, after := #[], guard := none }, { dst := some 51, op := Op.call { callee := Callee.value (Operand.func 35), args := #[Operand.tmp 50], argTypes := A51 }, type := y51, pos := p51, after := #[{ on := 3, ground := Ground.data }, { on := 3, ground := Ground.chain }], guard := none }, { dst := some 52, op := Op.extract (Operand.tmp 51) 0, type := y52, pos := p52, after := #[{ on := 4, ground := Ground.data }], guard := none }, { dst := some 53, op := Op.extract (Operand.tmp 51) 1, type := y53, pos := p53, after := #[{ on := 4, ground := Ground.data }], guard := none }, { dst := some 54, op := Op.call { callee := Callee.value (Operand.func 34), args := #[Operand.tmp 52, Operand.tmp 53], argTypes := A54 }, type := y54, pos := p54, after := #[{ on := 5, ground := Ground.data }, { on := 6, ground := Ground.data }, { on := 4, ground := Ground.chain }], guard := none }, { dst := some 55, op := Op.indexAddr 27 (Operand.tmp 48) (Operand.tmp 49), type := y55, pos := p55, after := #[{ on := 1, ground := Ground.data }, { on := 2, ground := Ground.data }, { on := 0, ground := Ground.phase }, { on := 1, ground := Ground.phase }, { on := 2, ground := Ground.phase }, { on := 3, ground := Ground.phase }, { on := 4, ground := Ground.phase }, { on := 5, ground := Ground.phase }, { on := 6, ground := Ground.phase }, { on := 7, ground := Ground.phase }], guard := none }, { dst := none, op := Op.store 51 (Operand.tmp 55) (Operand.tmp 54), type := y9, pos := p0, after := #[{ on := 8, ground := Ground.data }, { on := 7, ground := Ground.data }, { on := 7, ground := Ground.chain }, { on := 0, ground := Ground.phase }, { on := 1, ground := Ground.phase }, { on := 2, ground := Ground.phase }, { on := 3, ground := Ground.phase }, { on := 4, ground := Ground.phase }, { on := 5, ground := Ground.phase }, { on := 6, ground := Ground.phase }, { on := 7, ground := Ground.phase }], guard := none }]) true).wp Try.prog Q { tmps := #[x0, x1, x2, .pointer (some ⟨g3, 0, none⟩), .pointer (some ⟨g4, 0, none⟩), x5, .int .i64 (i : Nat), x7, x8, x9, x10, x11, x12, x13, x14, x15, x16, x17, x18, x19, x20, x21, x22, x23, x24, x25, x26, x27, x28, x29, x30, x31, x32, x33, x34, x35, x36, x37, x38, x39, x40, x41, x42, x43, x44, x45, x46, x47, x48, x49, x50, x51, x52, x53, x54, x55, x56, x57, x58, x59, x60, x61, x62, x63, x64, x65, x66, x67, x68, x69, x70, x71, x72, x73, x74], defers := [] } W := by
 refine wp_region_inv0 (by kernel_rfl) (fun d a' w' => (∀ j, 3 ≤ j → d j = false) ∧ ∃ U47 U48 U49 : Value, a' = { tmps := #[x0, x1, x2, .pointer (some ⟨g3, 0, none⟩), .pointer (some ⟨g4, 0, none⟩), x5, .int .i64 (i : Nat), x7, x8, x9, x10, x11, x12, x13, x14, x15, x16, x17, x18, x19, x20, x21, x22, x23, x24, x25, x26, x27, x28, x29, x30, x31, x32, x33, x34, x35, x36, x37, x38, x39, x40, x41, x42, x43, x44, x45, x46, U47, U48, U49, x50, x51, x52, x53, x54, x55, x56, x57, x58, x59, x60, x61, x62, x63, x64, x65, x66, x67, x68, x69, x70, x71, x72, x73, x74], defers := [] } ∧ (d 0 = true → U47 = .pointer (some ⟨g4, 7, none⟩)) ∧ (d 1 = true → U48 = .slice (some ⟨gY, 0, none⟩) n n) ∧ (d 2 = true → U49 = .int .i64 (i : Nat)) ∧ Row w' g3 #[.string ⟨r.toArray⟩] 64 ∧ Row w' g4 cM 29 ∧ Kept [g3, gY] W w') (by kernel_rfl) ?start ?step ?fin
 case start => exact ⟨fun _ _ => rfl, x47, x48, x49, rfl, nofun, nofun, nofun, r3.drew, r4.drew, (Kept.refl [g3, gY] W).trans (Kept.ofBelow (Below.refl W.heap.size W).drew) (by simp)⟩
 case step =>
  intro k o ho d a' w1 hI hd hpre
  obtain ⟨hno, U47, U48, U49, rfl, q0, q1, q2, r3, r4, kk⟩ := hI
  have aux : ∀ k j, 3 ≤ j → k < 3 → (j == k || d j) = false := fun k j hj hk => by rw [hno j hj, Bool.or_false]; exact beq_eq_false_iff_ne.2 (by omega)
  match k, ho with
  | 0, ho =>
   have ho' := Option.some.inj ho
   subst ho'
   refine opw_value (.pointer (some ⟨g4, 7, none⟩)) (exec_field 29 _ 6 rfl g4 0 rfl _ Try.underlying29 _ rfl 0 Try.sizeOf27 w1) ?_
   exact ⟨fun j hj => aux _ j hj (by omega), _, U48, U49, rfl, fun _ => rfl, q1, q2, r3, r4, kk⟩
  | 1, ho =>
   have ho' := Option.some.inj ho
   subst ho'
   obtain rfl : U47 = .pointer (some ⟨g4, 7, none⟩) := q0 (hpre ⟨0, .data⟩ (by simp) rfl)
   refine opw_value (.slice (some ⟨gY, 0, none⟩) n n) (exec_loadkw 27 _ rfl g4 7 rfl w1 r4.r _ hc7 Try.isAgg27) ?_
   exact ⟨fun j hj => aux _ j hj (by omega), _, _, U49, rfl, fun _ => rfl, fun _ => rfl, q2, r3, r4, kk⟩
  | 2, ho =>
   have ho' := Option.some.inj ho
   subst ho'
   refine opw_value (.int .i64 (i : Nat)) rfl ?_
   exact ⟨fun j hj => aux _ j hj (by omega), U47, U48, _, rfl, q0, q1, fun _ => rfl, r3, r4, kk⟩
  | 3, ho =>
   have ho' := Option.some.inj ho
   subst ho'
   refine opw_callQ 31 _ _ rfl Try.func31 (by kernel_rfl) #[.pointer (some ⟨g3, 0, none⟩), .int .i64 1] rfl ((gT_none (s := 1) r3 (by decide) (by decide) hgt).mono ?_)
   rintro e w2 ⟨rfl, k⟩
   exact .inr ⟨_, rfl, hpan _ _ rfl (kk.trans k (by simp))⟩
  | 4, ho =>
   have ho' := Option.some.inj ho
   subst ho'
   exact absurd (hpre ⟨3, .data⟩ (by simp) rfl) (by rw [hno 3 (by omega)]; decide)
  | 5, ho =>
   have ho' := Option.some.inj ho
   subst ho'
   exact absurd (hpre ⟨4, .data⟩ (by simp) rfl) (by rw [hno 4 (by omega)]; decide)
  | 6, ho =>
   have ho' := Option.some.inj ho
   subst ho'
   exact absurd (hpre ⟨4, .data⟩ (by simp) rfl) (by rw [hno 4 (by omega)]; decide)
  | 7, ho =>
   have ho' := Option.some.inj ho
   subst ho'
   exact absurd (hpre ⟨5, .data⟩ (by simp) rfl) (by rw [hno 5 (by omega)]; decide)
  | 8, ho =>
   have ho' := Option.some.inj ho
   subst ho'
   exact absurd (hpre ⟨3, .phase⟩ (by simp) rfl) (by rw [hno 3 (by omega)]; decide)
  | 9, ho =>
   have ho' := Option.some.inj ho
   subst ho'
   exact absurd (hpre ⟨8, .data⟩ (by simp) rfl) (by rw [hno 8 (by omega)]; decide)
  | k + 10, ho => cases ho
 case fin =>
  intro d a' w1 hI hd
  have hd' : ∀ j, j < 10 → d j = true := fun j hj => hd j hj
  exact absurd (hd' 3 (by omega)) (by rw [hI.1 3 (by omega)]; decide)
set_option maxRecDepth 100000 in
set_option maxHeartbeats 4000000 in
theorem rg17_yes {rid : Nat} (i n g3 g4 gY : Nat) (cM : Array Value) (f : Nat → Nat) (r : List UInt8) {x0 x1 x2 x5 x7 x8 x9 x10 x11 x12 x13 x14 x15 x16 x17 x18 x19 x20 x21 x22 x23 x24 x25 x26 x27 x28 x29 x30 x31 x32 x33 x34 x35 x36 x37 x38 x39 x40 x41 x42 x43 x44 x45 x46 x47 x48 x49 x50 x51 x52 x53 x54 x55 x56 x57 x58 x59 x60 x61 x62 x63 x64 x65 x66 x67 x68 x69 x70 x71 x72 x73 x74 : Value} {y47 y48 y49 y50 y51 y52 y53 y54 y55 y9 : TypeId} {A50 A51 A54 : Array TypeId} {p47 p48 p49 p50 p51 p52 p53 p54 p55 p0 : String} {W : World} {Q : Exit → Act → World → Prop} (hlt : i < n) (h34 : g3 ≠ g4) (h3Y : g3 ≠ gY) (h4Y : g4 ≠ gY) (r3 : Row W g3 #[.string ⟨r.toArray⟩] 64) (r4 : Row W g4 cM 29) (rY : Row W gY (nsC n f) 51) (hc7 : cM[7]? = some (.slice (some ⟨gY, 0, none⟩) n n)) (t r' : List UInt8) (f' : Nat → Nat) (A : Nat) (z : Int) (hgt : gT r 1 = some (t, r')) (hA : takeN ⟨t.toArray⟩ = A) (hz : takeE ⟨t.toArray⟩ = z) (hz4 : z = 0 ∨ z = 4) (hf : putL (nsC n f) (0 + i * 4) (natC A).toList = nsC n f')
  (hpan : ∀ a w', a.defers = [] → z = 4 → Kept [g3, gY] W w' → Q (.panic (wrP 4)) a w')
  (hend : ∀ w', z = 0 → Row w' g3 #[.string ⟨r'.toArray⟩] 64 → Row w' g4 cM 29 → Row w' gY (nsC n f') 51 → Kept [g3, gY] W w' → Q .normal { tmps := #[x0, x1, x2, .pointer (some ⟨g3, 0, none⟩), .pointer (some ⟨g4, 0, none⟩), x5, .int .i64 (i : Nat), x7, x8, x9, x10, x11, x12, x13, x14, x15, x16, x17, x18, x19, x20, x21, x22, x23, x24, x25, x26, x27, x28, x29, x30, x31, x32, x33, x34, x35, x36, x37, x38, x39, x40, x41, x42, x43, x44, x45, x46, .pointer (some ⟨g4, 7, none⟩), .slice (some ⟨gY, 0, none⟩) n n, .int .i64 (i : Nat), .string ⟨t.toArray⟩, .tuple #[.agg (natC A), .int .i64 z], .agg (natC A), .int .i64 z, .agg (natC A), .pointer (some ⟨gY, 0 + i * 4, none⟩), x56, x57, x58, x59, x60, x61, x62, x63, x64, x65, x66, x67, x68, x69, x70, x71, x72, x73, x74], defers := [] } w') :
  (Code.region rid (List.toArray [{ dst := some 47, op := Op.fieldAddr 29 (Operand.tmp 4) 6, type := y47, pos := p47, after := #[], guard := none }, { dst := some 48, op := Op.load 27 (Operand.tmp 47), type := y48, pos := p48, after := #[{ on := 0, ground := Ground.data }], guard := none }, { dst := some 49, op := Op.move (Operand.tmp 6), type := y49, pos := p49, after := #[], guard := none }, { dst := some 50, op := Op.call { callee := Callee.value (Operand.func 31), args := #[Operand.tmp 3, Operand.const (Value.int IntKind.i64 1)], argTypes := A50 }, type := y50, pos := p50, after := #[], guard := none }, { dst := some 51, op := Op.call { callee := Callee.value (Operand.func 35), args := #[Operand.tmp 50], argTypes := A51 }, type := y51, pos := p51, after := #[{ on := 3, ground := Ground.data }, { on := 3, ground := Ground.chain }], guard := none }, { dst := some 52, op := Op.extract (Operand.tmp 51) 0, type := y52, pos := p52, after := #[{ on := 4, ground := Ground.data }], guard := none }, { dst := some 53, op := Op.extract (Operand.tmp 51) 1, type := y53, pos := p53, after := #[{ on := 4, ground := Ground.data }], guard := none }, { dst := some 54, op := Op.call { callee := Callee.value (Operand.func 34), args := #[Operand.tmp 52, Operand.tmp 53], argTypes := A54 }, type := y54, pos := p54, after := #[{ on := 5, ground := Ground.data }, { on := 6, ground := Ground.data }, { on := 4, ground := Ground.chain }], guard := none }, { dst := some 55, op := Op.indexAddr 27 (Operand.tmp 48) (Operand.tmp 49), type := y55, pos := p55, after := #[{ on := 1, ground := Ground.data }, { on := 2, ground := Ground.data }, { on := 0, ground := Ground.phase }, { on := 1, ground := Ground.phase }, { on := 2, ground := Ground.phase }, { on := 3, ground := Ground.phase }, { on := 4, ground := Ground.phase }, { on := 5, ground := Ground.phase }, { on := 6, ground := Ground.phase }, { on := 7, ground := Ground.phase }], guard := none }, { dst := none, op := Op.store 51 (Operand.tmp 55) (Operand.tmp 54), type := y9, pos := p0, after := #[{ on := 8, ground := Ground.data }, { on := 7, ground := Ground.data }, { on := 7, ground := Ground.chain }, { on := 0, ground := Ground.phase }, { on := 1, ground := Ground.phase }, { on := 2, ground := Ground.phase }, { on := 3, ground := Ground.phase }, { on := 4, ground := Ground.phase }, { on := 5, ground := Ground.phase }, { on := 6, ground := Ground.phase }, { on := 7, ground := Ground.phase }], guard := none }]) true).wp Try.prog Q { tmps := #[x0, x1, x2, .pointer (some ⟨g3, 0, none⟩), .pointer (some ⟨g4, 0, none⟩), x5, .int .i64 (i : Nat), x7, x8, x9, x10, x11, x12, x13, x14, x15, x16, x17, x18, x19, x20, x21, x22, x23, x24, x25, x26, x27, x28, x29, x30, x31, x32, x33, x34, x35, x36, x37, x38, x39, x40, x41, x42, x43, x44, x45, x46, x47, x48, x49, x50, x51, x52, x53, x54, x55, x56, x57, x58, x59, x60, x61, x62, x63, x64, x65, x66, x67, x68, x69, x70, x71, x72, x73, x74], defers := [] } W := by
 refine wp_region_inv0 (by kernel_rfl) (fun d a' w' => ∃ U47 U48 U49 U50 U51 U52 U53 U54 U55 : Value, a' = { tmps := #[x0, x1, x2, .pointer (some ⟨g3, 0, none⟩), .pointer (some ⟨g4, 0, none⟩), x5, .int .i64 (i : Nat), x7, x8, x9, x10, x11, x12, x13, x14, x15, x16, x17, x18, x19, x20, x21, x22, x23, x24, x25, x26, x27, x28, x29, x30, x31, x32, x33, x34, x35, x36, x37, x38, x39, x40, x41, x42, x43, x44, x45, x46, U47, U48, U49, U50, U51, U52, U53, U54, U55, x56, x57, x58, x59, x60, x61, x62, x63, x64, x65, x66, x67, x68, x69, x70, x71, x72, x73, x74], defers := [] } ∧ (d 0 = true → U47 = .pointer (some ⟨g4, 7, none⟩)) ∧ (d 1 = true → U48 = .slice (some ⟨gY, 0, none⟩) n n) ∧ (d 2 = true → U49 = .int .i64 (i : Nat)) ∧ (d 3 = true → U50 = .string ⟨t.toArray⟩) ∧ (d 4 = true → U51 = .tuple #[.agg (natC A), .int .i64 z]) ∧ (d 5 = true → U52 = .agg (natC A)) ∧ (d 6 = true → U53 = .int .i64 z) ∧ (d 7 = true → U54 = .agg (natC A)) ∧ (d 8 = true → U55 = .pointer (some ⟨gY, 0 + i * 4, none⟩)) ∧ ∃ c3 cY, Row w' g3 c3 64 ∧ Row w' g4 cM 29 ∧ Row w' gY cY 51 ∧ Kept [g3, gY] W w' ∧ (d 3 = false → c3 = #[.string ⟨r.toArray⟩]) ∧ (d 3 = true → c3 = #[.string ⟨r'.toArray⟩]) ∧ (d 9 = false → cY = nsC n f) ∧ (d 9 = true → cY = nsC n f') ∧ (d 7 = true → z = 0)) (by kernel_rfl) ?start ?step ?fin
 case start => exact ⟨x47, x48, x49, x50, x51, x52, x53, x54, x55, rfl, nofun, nofun, nofun, nofun, nofun, nofun, nofun, nofun, nofun, _, _, r3.drew, r4.drew, rY.drew, (Kept.refl [g3, gY] W).trans (Kept.ofBelow (Below.refl W.heap.size W).drew) (by simp), fun _ => rfl, nofun, fun _ => rfl, nofun, nofun⟩
 case step =>
  intro k o ho d a' w1 hI hd hpre
  obtain ⟨U47, U48, U49, U50, U51, U52, U53, U54, U55, rfl, q0, q1, q2, q3, q4, q5, q6, q7, q8, c3, cY, r3, r4, rY, kk, e1, e2, e3, e4, e5⟩ := hI
  match k, ho with
  | 0, ho =>
   have ho' := Option.some.inj ho
   subst ho'
   refine opw_value (.pointer (some ⟨g4, 7, none⟩)) (exec_field 29 _ 6 rfl g4 0 rfl _ Try.underlying29 _ rfl 0 Try.sizeOf27 w1) ?_
   exact ⟨_, U48, U49, U50, U51, U52, U53, U54, U55, rfl, fun _ => rfl, q1, q2, q3, q4, q5, q6, q7, q8, c3, cY, r3, r4, rY, kk, e1, e2, e3, e4, e5⟩
  | 1, ho =>
   have ho' := Option.some.inj ho
   subst ho'
   obtain rfl : U47 = .pointer (some ⟨g4, 7, none⟩) := q0 (hpre ⟨0, .data⟩ (by simp) rfl)
   refine opw_value (.slice (some ⟨gY, 0, none⟩) n n) (exec_loadkw 27 _ rfl g4 7 rfl w1 r4.r _ hc7 Try.isAgg27) ?_
   exact ⟨_, _, U49, U50, U51, U52, U53, U54, U55, rfl, fun _ => rfl, fun _ => rfl, q2, q3, q4, q5, q6, q7, q8, c3, cY, r3, r4, rY, kk, e1, e2, e3, e4, e5⟩
  | 2, ho =>
   have ho' := Option.some.inj ho
   subst ho'
   refine opw_value (.int .i64 (i : Nat)) (rfl) ?_
   exact ⟨U47, U48, _, U50, U51, U52, U53, U54, U55, rfl, q0, q1, fun _ => rfl, q3, q4, q5, q6, q7, q8, c3, cY, r3, r4, rY, kk, e1, e2, e3, e4, e5⟩
  | 3, ho =>
   have ho' := Option.some.inj ho
   subst ho'
   obtain rfl := e1 hd
   refine opw_callQ 31 _ _ rfl Try.func31 (by kernel_rfl) #[.pointer (some ⟨g3, 0, none⟩), .int .i64 1] rfl ((gT_some (s := 1) r3 (by decide) (by decide) hgt).mono ?_)
   rintro e w2 ⟨rfl, r3', k⟩
   exact .inl ⟨_, rfl, ⟨U47, U48, U49, _, U51, U52, U53, U54, U55, rfl, q0, q1, q2, fun _ => rfl, q4, q5, q6, q7, q8, _, cY, r3', k.row r4 (by simp; omega), k.row rY (by simp; omega), kk.trans k (by simp), nofun, fun _ => rfl, e3, e4, e5⟩⟩
  | 4, ho =>
   have ho' := Option.some.inj ho
   subst ho'
   obtain rfl : U50 = .string ⟨t.toArray⟩ := q3 (hpre ⟨3, .data⟩ (by simp) rfl)
   refine opw_call 35 _ _ rfl Try.func35 (by kernel_rfl) #[.string ⟨t.toArray⟩] rfl ((ntake_any ⟨t.toArray⟩ w1).mono ?_)
   rintro e w2 ⟨rfl, hb⟩
   rw [hA, hz]
   exact ⟨_, rfl, ⟨U47, U48, U49, _, _, U52, U53, U54, U55, rfl, q0, q1, q2, fun _ => rfl, fun _ => rfl, q5, q6, q7, q8, c3, cY, r3.belowAll hb, r4.belowAll hb, rY.belowAll hb, kk.trans (Kept.ofBelow hb) (by simp), e1, e2, e3, e4, e5⟩⟩
  | 5, ho =>
   have ho' := Option.some.inj ho
   subst ho'
   obtain rfl : U51 = .tuple #[.agg (natC A), .int .i64 z] := q4 (hpre ⟨4, .data⟩ (by simp) rfl)
   refine opw_value (.agg (natC A)) (rfl) ?_
   exact ⟨U47, U48, U49, U50, _, _, U53, U54, U55, rfl, q0, q1, q2, q3, fun _ => rfl, fun _ => rfl, q6, q7, q8, c3, cY, r3, r4, rY, kk, e1, e2, e3, e4, e5⟩
  | 6, ho =>
   have ho' := Option.some.inj ho
   subst ho'
   obtain rfl : U51 = .tuple #[.agg (natC A), .int .i64 z] := q4 (hpre ⟨4, .data⟩ (by simp) rfl)
   refine opw_value (.int .i64 z) (rfl) ?_
   exact ⟨U47, U48, U49, U50, _, U52, _, U54, U55, rfl, q0, q1, q2, q3, fun _ => rfl, q5, fun _ => rfl, q7, q8, c3, cY, r3, r4, rY, kk, e1, e2, e3, e4, e5⟩
  | 7, ho =>
   have ho' := Option.some.inj ho
   subst ho'
   obtain rfl : U52 = .agg (natC A) := q5 (hpre ⟨5, .data⟩ (by simp) rfl)
   obtain rfl : U53 = .int .i64 z := q6 (hpre ⟨6, .data⟩ (by simp) rfl)
   rcases hz4 with h0 | h4
   ·refine opw_call 34 _ _ rfl Try.func34 (by kernel_rfl) #[.agg (natC A), .int .i64 z] rfl ((show Calls Try.prog 34 #[.agg (natC A), .int .i64 z] w1 (fun e w' => e = .returned (.agg (natC A)) ∧ Below w1.heap.size w1 w') by rw [h0]; exact sureN_ok A w1).mono ?_)
    rintro e w2 ⟨rfl, hb⟩
    exact ⟨_, rfl, ⟨U47, U48, U49, U50, U51, _, _, _, U55, rfl, q0, q1, q2, q3, q4, fun _ => rfl, fun _ => rfl, fun _ => rfl, q8, c3, cY, r3.belowAll hb, r4.belowAll hb, rY.belowAll hb, kk.trans (Kept.ofBelow hb) (by simp), e1, e2, e3, e4, fun _ => h0⟩⟩
   ·refine opw_callQ 34 _ _ rfl Try.func34 (by kernel_rfl) #[.agg (natC A), .int .i64 z] rfl ((show Calls Try.prog 34 #[.agg (natC A), .int .i64 z] w1 (fun e w' => e = .panicked (wrP 4) ∧ Below w1.heap.size w1 w') by rw [h4]; exact sureN_no A w1).mono ?_)
    rintro e w2 ⟨rfl, hb⟩
    exact .inr ⟨_, rfl, hpan _ _ rfl h4 (kk.trans (Kept.ofBelow hb) (by simp))⟩
  | 8, ho =>
   have ho' := Option.some.inj ho
   subst ho'
   obtain rfl : U48 = .slice (some ⟨gY, 0, none⟩) n n := q1 (hpre ⟨1, .data⟩ (by simp) rfl)
   obtain rfl : U49 = .int .i64 (i : Nat) := q2 (hpre ⟨2, .data⟩ (by simp) rfl)
   refine opw_value (.pointer (some ⟨gY, 0 + i * 4, none⟩)) (exec_index_s 27 _ _ rfl gY 0 n n rfl i rfl hlt _ Try.underlying27 4 size_nat4 w1) ?_
   exact ⟨U47, _, _, U50, U51, U52, U53, U54, _, rfl, q0, fun _ => rfl, fun _ => rfl, q3, q4, q5, q6, q7, fun _ => rfl, c3, cY, r3, r4, rY, kk, e1, e2, e3, e4, e5⟩
  | 9, ho =>
   have ho' := Option.some.inj ho
   subst ho'
   obtain rfl : U55 = .pointer (some ⟨gY, 0 + i * 4, none⟩) := q8 (hpre ⟨8, .data⟩ (by simp) rfl)
   obtain rfl : U54 = .agg (natC A) := q7 (hpre ⟨7, .data⟩ (by simp) rfl)
   obtain rfl := e3 hd
   refine opw_putm 51 _ _ rfl gY (0 + i * 4) rfl rY (natC A) rfl (by exact size_nat) (by rw [natC_size, nsC_size]; omega) (natC_one _) _ hf ?_
   intro w2 rY' k
   exact ⟨U47, U48, U49, U50, U51, U52, U53, _, _, rfl, q0, q1, q2, q3, q4, q5, q6, fun _ => rfl, fun _ => rfl, c3, _, k.row r3 (by simp; omega), k.row r4 (by simp; omega), rY', kk.trans k (by simp), e1, e2, nofun, fun _ => rfl, e5⟩
  | k + 10, ho => cases ho
 case fin =>
  intro d a' w1 hI hd
  obtain ⟨U47, U48, U49, U50, U51, U52, U53, U54, U55, rfl, q0, q1, q2, q3, q4, q5, q6, q7, q8, c3, cY, r3, r4, rY, kk, e1, e2, e3, e4, e5⟩ := hI
  have hd' : ∀ j, j < 10 → d j = true := fun j hj => hd j hj
  obtain rfl : U47 = .pointer (some ⟨g4, 7, none⟩) := q0 (hd' 0 (by omega))
  obtain rfl : U48 = .slice (some ⟨gY, 0, none⟩) n n := q1 (hd' 1 (by omega))
  obtain rfl : U49 = .int .i64 (i : Nat) := q2 (hd' 2 (by omega))
  obtain rfl : U50 = .string ⟨t.toArray⟩ := q3 (hd' 3 (by omega))
  obtain rfl : U51 = .tuple #[.agg (natC A), .int .i64 z] := q4 (hd' 4 (by omega))
  obtain rfl : U52 = .agg (natC A) := q5 (hd' 5 (by omega))
  obtain rfl : U53 = .int .i64 z := q6 (hd' 6 (by omega))
  obtain rfl : U54 = .agg (natC A) := q7 (hd' 7 (by omega))
  obtain rfl : U55 = .pointer (some ⟨gY, 0 + i * 4, none⟩) := q8 (hd' 8 (by omega))
  obtain rfl := e2 (hd' 3 (by omega))
  obtain rfl := e4 (hd' 9 (by omega))
  exact hend w1 (e5 (hd' 7 (by omega))) r3 r4 rY kk
end Go.Proofs.Ytojobffihlmfgaa
/- wire.read of any bytes. -/
namespace Go.Proofs.Ytojobffihlmfgaa
open Go.RowKit
set_option linter.unusedVariables false
set_option linter.unusedSimpArgs false
set_option linter.unusedSectionVars false
theorem size1tapiatrix : (Try.prog.info? 26).map (·.size) = some 1 := by kernel_rfl
theorem yt_nil (n : Nat) : nsC n (fun _ => 0) = nsC n (Yt []) := nsC_congr n _ _ fun k _ => by
 show 0 = takeN ⟨(([] : List (List UInt8)).getD k []).toArray⟩
 rfl
theorem okT_E (t : List UInt8) : (okT t = true ∧ takeE ⟨t.toArray⟩ = 0) ∨ (okT t = false ∧ takeE ⟨t.toArray⟩ = 4) := by
 unfold okT takeE
 cases badB ⟨t.toArray⟩
 ·exact .inl ⟨rfl, rfl⟩
 ·exact .inr ⟨rfl, rfl⟩
set_option maxRecDepth 100000 in
set_option maxHeartbeats 8000000 in
theorem read_any (s : List UInt8) (w : World) (hs : s.length < 4611686018427387904) :
  Calls Try.prog 15 #[.string ⟨s.toArray⟩] w fun e w' => ((tz s = none ∧ e = .panicked (wrP 4)) ∨ ∃ d a1 c1 a2 c2, tz s = some d ∧ e = .returned (.agg (mD d a1 c1 a2 c2)) ∧ InR w.heap.size w'.heap.size w' d a1 a2) ∧ Below w.heap.size w w' := by
 obtain ⟨ie, hie, hze, hsz, hby⟩ := info_nat'
 go_enter Try.func15, Try.ntmps15
 (repeat ((fail_if_success with_reducible refine rg ?_); go_step))
 refine wp_region_pw ?_
 refine pw_new (by rfl) 29 rfl _ zero_ms ?_
 intro g2 z0 n0 r2 k
 simp only [Act.put, pu]
 have b2 : w.heap.size ≤ g2 := n0
 clear n0
 have sb := k.below w.heap.size (Nat.le_refl _) (by simp)
 clear k
 refine pw_nil ?_
 by_cases hl : s.length ≤ 8192
 rotate_left
 ·have hno : tz s = none := tz_long hl
  (repeat ((fail_if_success with_reducible refine rg ?_); go_step))
  refine wp_region_pw ?_
  refine pw_mv (by rfl) rfl rfl ?_
  simp only [Act.put, pu]
  refine pw_value (by rfl) (.int .i64 (s.length : Nat)) (y_lenS _ _ rfl s rfl Try.underlying9) ?_
  simp only [Act.put, pu]
  refine pw_value (by rfl) (.bool false) (w_le _ _ _ _ rfl (s.length : Nat) 8192 rfl rfl false (decide_eq_false (by omega))) ?_
  simp only [Act.put, pu]
  refine pw_callP (by rfl) 24 _ _ rfl Try.func24 (by kernel_rfl) #[.bool false, .int .i64 4] rfl (insist_any false 4 _) ?_
  intro z1003 hb
  exact ⟨rfl, .inl ⟨hno, rfl⟩, below_on sb (Nat.le_refl _) hb⟩
 (repeat ((fail_if_success with_reducible refine rg ?_); go_step))
 refine wp_region_pw ?_
 refine pw_mv (by rfl) rfl rfl ?_
 simp only [Act.put, pu]
 refine pw_value (by rfl) (.int .i64 (s.length : Nat)) (y_lenS _ _ rfl s rfl Try.underlying9) ?_
 simp only [Act.put, pu]
 refine pw_value (by rfl) (.bool true) (w_le _ _ _ _ rfl (s.length : Nat) 8192 rfl rfl true (decide_eq_true (by omega))) ?_
 simp only [Act.put, pu]
 refine pw_callB (by rfl) 24 _ _ rfl Try.func24 (by kernel_rfl) #[.bool true, .int .i64 4] rfl _ (insist_any true 4 _) ?_
 intro z1003 k
 simp only [Act.put, pu]
 replace r2 := k.row r2 (by simp <;> omega)
 replace sb := sb.trans (k.below w.heap.size sb.size (by simp <;> omega))
 clear k
 refine pw_nil ?_
 (repeat ((fail_if_success with_reducible refine rg ?_); go_step))
 refine wp_region_pw ?_
 refine pw_mv (by rfl) rfl rfl ?_
 simp only [Act.put, pu]
 refine pw_value (by rfl) (.agg #[.string ⟨s.toArray⟩]) (exec_buildv _ [(0, _)] rfl [(0, .string ⟨s.toArray⟩)] rfl _ (built_so s)) ?_
 simp only [Act.put, pu]
 refine pw_new (by rfl) 64 rfl _ zero_so ?_
 intro g3 z2002 n0 r3 k
 simp only [Act.put, pu]
 have d2x3 := Nat.lt_of_lt_of_le r2.lt n0
 have b3 := Nat.le_trans sb.size n0
 clear n0
 replace r2 := k.row r2 (by simp <;> omega)
 replace sb := sb.trans (k.below w.heap.size sb.size (by simp <;> omega))
 clear k
 refine pw_put (by rfl) 64 _ _ rfl _ rfl r3 (#[.string ⟨s.toArray⟩]) rfl (by exact size_so) (by rfl) (so_one _) ?_
 clear r3
 intro z2003 r3 k
 simp only [Act.put]
 replace r2 := k.row r2 (by simp <;> omega)
 replace sb := sb.trans (k.below w.heap.size sb.size (by simp <;> omega))
 clear k
 refine pw_nil ?_
 (repeat ((fail_if_success with_reducible refine rg ?_); go_step))
 refine wp_region_pw ?_
 refine pw_new (by rfl) 29 rfl _ zero_ms ?_
 intro g4 z3000 n0 r4 k
 simp only [Act.put, pu]
 have d2x4 := Nat.lt_of_lt_of_le r2.lt n0
 have d3x4 := Nat.lt_of_lt_of_le r3.lt n0
 have b4 := Nat.le_trans sb.size n0
 clear n0
 replace r2 := k.row r2 (by simp <;> omega)
 replace r3 := k.row r3 (by simp <;> omega)
 replace sb := sb.trans (k.below w.heap.size sb.size (by simp <;> omega))
 clear k
 refine pw_nil ?_
 have HR : Hid (rz s = rz1 s) := rz_1 s
 obtain ⟨L0, hL0⟩ : ∃ L, s = L := ⟨_, rfl⟩
 have HS : Hid (s = L0) := hL0
 have HR0 : Hid (rz s = rz1 L0) := by rw [← hL0]; exact HR.out
 rw [show s = L0 from hL0] at r3
 clear hL0 HR
 cases h0 : gN L0 1 with
 | none =>
  have hno : tz s = none := tz_none (HR0.out.trans (rz1_no h0))
  (repeat ((fail_if_success with_reducible refine rg ?_); go_step))
  refine wp_region_pw ?_
  refine pw_callP (by rfl) 30 _ _ rfl Try.func30 (by kernel_rfl) #[.pointer (some ⟨g3, 0, none⟩), .int .i64 1] rfl (gN_none r3 h0) ?_
  intro z4000 k
  exact ⟨rfl, .inl ⟨hno, rfl⟩, sb.trans (k.below w.heap.size sb.size (by simp <;> omega))⟩
 | some p0 =>
  obtain ⟨kd, L1⟩ := p0
  have HR1 : Hid (rz s = rz2 kd L1) := HR0.out.trans (rz1_yes h0)
  clear HR0
  (repeat ((fail_if_success with_reducible refine rg ?_); go_step))
  refine wp_region_pw ?_
  refine pw_callE (by rfl) 30 _ _ rfl Try.func30 (by kernel_rfl) #[.pointer (some ⟨g3, 0, none⟩), .int .i64 1] rfl (gN_some r3 (by decide) (by decide) h0) ?_
  have cr3 := r3.lt
  clear r3
  rintro _ z4000 ⟨rfl, r3, k⟩
  refine ⟨_, rfl, ?_⟩
  simp only [Act.put, pu]
  clear cr3
  replace r2 := k.row r2 (by simp <;> omega)
  replace r4 := k.row r4 (by simp <;> omega)
  replace sb := sb.trans (k.below w.heap.size sb.size (by simp <;> omega))
  clear k
  refine pw_value (by rfl) (.pointer (some ⟨g4, 0, none⟩)) (exec_field 29 _ 0 rfl g4 0 rfl _ Try.underlying29 _ rfl 0 Try.sizeOf3) ?_
  simp only [Act.put, pu]
  refine pw_putv (by rfl) 3 _ _ rfl _ (0) rfl r4 (.int .i64 (kd : Nat)) rfl rfl rfl size1tint (by exact Nat.succ_pos _) (msC (kd : Nat) 0 [] 0 0 [] none 0 0 none 0 0) rfl ?_
  clear r4
  intro z4002 r4 k
  simp only [Act.put]
  replace r2 := k.row r2 (by simp <;> omega)
  replace r3 := k.row r3 (by simp <;> omega)
  replace sb := sb.trans (k.below w.heap.size sb.size (by simp <;> omega))
  clear k
  refine pw_nil ?_
  cases h1 : gN L1 4 with
  | none =>
   have hno : tz s = none := tz_none (HR1.out.trans (rz2_no h1))
   (repeat ((fail_if_success with_reducible refine rg ?_); go_step))
   refine wp_region_pw ?_
   refine pw_callP (by rfl) 30 _ _ rfl Try.func30 (by kernel_rfl) #[.pointer (some ⟨g3, 0, none⟩), .int .i64 4] rfl (gN_none r3 h1) ?_
   intro z5000 k
   exact ⟨rfl, .inl ⟨hno, rfl⟩, sb.trans (k.below w.heap.size sb.size (by simp <;> omega))⟩
  | some p1 =>
   obtain ⟨op, L2⟩ := p1
   have HR2 : Hid (rz s = rz3 kd op L2) := HR1.out.trans (rz2_yes h1)
   clear HR1
   (repeat ((fail_if_success with_reducible refine rg ?_); go_step))
   refine wp_region_pw ?_
   refine pw_callE (by rfl) 30 _ _ rfl Try.func30 (by kernel_rfl) #[.pointer (some ⟨g3, 0, none⟩), .int .i64 4] rfl (gN_some r3 (by decide) (by decide) h1) ?_
   have cr3 := r3.lt
   clear r3
   rintro _ z5000 ⟨rfl, r3, k⟩
   refine ⟨_, rfl, ?_⟩
   simp only [Act.put, pu]
   clear cr3
   replace r2 := k.row r2 (by simp <;> omega)
   replace r4 := k.row r4 (by simp <;> omega)
   replace sb := sb.trans (k.below w.heap.size sb.size (by simp <;> omega))
   clear k
   refine pw_value (by rfl) (.pointer (some ⟨g4, 1, none⟩)) (exec_field 29 _ 1 rfl g4 0 rfl _ Try.underlying29 _ rfl 0 Try.sizeOf3) ?_
   simp only [Act.put, pu]
   refine pw_putv (by rfl) 3 _ _ rfl _ (1) rfl r4 (.int .i64 (op : Nat)) rfl rfl rfl size1tint (by exact Nat.succ_lt_succ (Nat.succ_pos _)) (msC (kd : Nat) (op : Nat) [] 0 0 [] none 0 0 none 0 0) rfl ?_
   clear r4
   intro z5002 r4 k
   simp only [Act.put]
   replace r2 := k.row r2 (by simp <;> omega)
   replace r3 := k.row r3 (by simp <;> omega)
   replace sb := sb.trans (k.below w.heap.size sb.size (by simp <;> omega))
   clear k
   refine pw_nil ?_
   cases h2 : gT L2 1 with
   | none =>
    have hno : tz s = none := tz_none (HR2.out.trans (rz3_no h2))
    (repeat ((fail_if_success with_reducible refine rg ?_); go_step))
    refine wp_region_pw ?_
    refine pw_callP (by rfl) 31 _ _ rfl Try.func31 (by kernel_rfl) #[.pointer (some ⟨g3, 0, none⟩), .int .i64 1] rfl (gT_none r3 (by decide) (by decide) h2) ?_
    intro z6000 k
    exact ⟨rfl, .inl ⟨hno, rfl⟩, sb.trans (k.below w.heap.size sb.size (by simp <;> omega))⟩
   | some p2 =>
    obtain ⟨key, L3⟩ := p2
    have HR3 : Hid (rz s = rz4 kd op key L3) := HR2.out.trans (rz3_yes h2)
    have hlkey := (gT_is h2).2
    clear HR2
    (repeat ((fail_if_success with_reducible refine rg ?_); go_step))
    refine wp_region_pw ?_
    refine pw_callE (by rfl) 31 _ _ rfl Try.func31 (by kernel_rfl) #[.pointer (some ⟨g3, 0, none⟩), .int .i64 1] rfl (gT_some r3 (by decide) (by decide) h2) ?_
    have cr3 := r3.lt
    clear r3
    rintro _ z6000 ⟨rfl, r3, k⟩
    refine ⟨_, rfl, ?_⟩
    simp only [Act.put, pu]
    clear cr3
    replace r2 := k.row r2 (by simp <;> omega)
    replace r4 := k.row r4 (by simp <;> omega)
    replace sb := sb.trans (k.below w.heap.size sb.size (by simp <;> omega))
    clear k
    refine pw_value (by rfl) (.pointer (some ⟨g4, 2, none⟩)) (exec_field 29 _ 2 rfl g4 0 rfl _ Try.underlying29 _ rfl 0 Try.sizeOf9) ?_
    simp only [Act.put, pu]
    refine pw_putv (by rfl) 9 _ _ rfl _ (2) rfl r4 (.string ⟨key.toArray⟩) rfl rfl rfl size1tstring (by exact (by decide : 2 < 8)) (msC (kd : Nat) (op : Nat) key 0 0 [] none 0 0 none 0 0) rfl ?_
    clear r4
    intro z6002 r4 k
    simp only [Act.put]
    replace r2 := k.row r2 (by simp <;> omega)
    replace r3 := k.row r3 (by simp <;> omega)
    replace sb := sb.trans (k.below w.heap.size sb.size (by simp <;> omega))
    clear k
    refine pw_nil ?_
    cases h3 : gN L3 6 with
    | none =>
     have hno : tz s = none := tz_none (HR3.out.trans (rz4_no h3))
     (repeat ((fail_if_success with_reducible refine rg ?_); go_step))
     refine wp_region_pw ?_
     refine pw_callP (by rfl) 30 _ _ rfl Try.func30 (by kernel_rfl) #[.pointer (some ⟨g3, 0, none⟩), .int .i64 6] rfl (gN_none r3 h3) ?_
     intro z7000 k
     exact ⟨rfl, .inl ⟨hno, rfl⟩, sb.trans (k.below w.heap.size sb.size (by simp <;> omega))⟩
    | some p3 =>
     obtain ⟨sq, L4⟩ := p3
     have HR4 : Hid (rz s = rz5 kd op key sq L4) := HR3.out.trans (rz4_yes h3)
     clear HR3
     (repeat ((fail_if_success with_reducible refine rg ?_); go_step))
     refine wp_region_pw ?_
     refine pw_callE (by rfl) 30 _ _ rfl Try.func30 (by kernel_rfl) #[.pointer (some ⟨g3, 0, none⟩), .int .i64 6] rfl (gN_some r3 (by decide) (by decide) h3) ?_
     have cr3 := r3.lt
     clear r3
     rintro _ z7000 ⟨rfl, r3, k⟩
     refine ⟨_, rfl, ?_⟩
     simp only [Act.put, pu]
     clear cr3
     replace r2 := k.row r2 (by simp <;> omega)
     replace r4 := k.row r4 (by simp <;> omega)
     replace sb := sb.trans (k.below w.heap.size sb.size (by simp <;> omega))
     clear k
     refine pw_value (by rfl) (.pointer (some ⟨g4, 3, none⟩)) (exec_field 29 _ 3 rfl g4 0 rfl _ Try.underlying29 _ rfl 1 Try.sizeOf24) ?_
     simp only [Act.put, pu]
     refine pw_value (by rfl) (.pointer (some ⟨g4, 3, none⟩)) (exec_field 24 _ 0 rfl g4 3 rfl _ Try.underlying24 _ rfl 0 Try.sizeOf3) ?_
     simp only [Act.put, pu]
     refine pw_putv (by rfl) 3 _ _ rfl _ (3) rfl r4 (.int .i64 (sq : Nat)) rfl rfl rfl size1tint (by exact (by decide : 3 < 8)) (msC (kd : Nat) (op : Nat) key (sq : Nat) 0 [] none 0 0 none 0 0) rfl ?_
     clear r4
     intro z7003 r4 k
     simp only [Act.put]
     replace r2 := k.row r2 (by simp <;> omega)
     replace r3 := k.row r3 (by simp <;> omega)
     replace sb := sb.trans (k.below w.heap.size sb.size (by simp <;> omega))
     clear k
     refine pw_nil ?_
     cases h4 : gN L4 1 with
     | none =>
      have hno : tz s = none := tz_none (HR4.out.trans (rz5_no h4))
      (repeat ((fail_if_success with_reducible refine rg ?_); go_step))
      refine wp_region_pw ?_
      refine pw_callP (by rfl) 30 _ _ rfl Try.func30 (by kernel_rfl) #[.pointer (some ⟨g3, 0, none⟩), .int .i64 1] rfl (gN_none r3 h4) ?_
      intro z8000 k
      exact ⟨rfl, .inl ⟨hno, rfl⟩, sb.trans (k.below w.heap.size sb.size (by simp <;> omega))⟩
     | some p4 =>
      obtain ⟨cl, L5⟩ := p4
      have HR5 : Hid (rz s = rz6 kd op key sq cl L5) := HR4.out.trans (rz5_yes h4)
      clear HR4
      (repeat ((fail_if_success with_reducible refine rg ?_); go_step))
      refine wp_region_pw ?_
      refine pw_callE (by rfl) 30 _ _ rfl Try.func30 (by kernel_rfl) #[.pointer (some ⟨g3, 0, none⟩), .int .i64 1] rfl (gN_some r3 (by decide) (by decide) h4) ?_
      have cr3 := r3.lt
      clear r3
      rintro _ z8000 ⟨rfl, r3, k⟩
      refine ⟨_, rfl, ?_⟩
      simp only [Act.put, pu]
      clear cr3
      replace r2 := k.row r2 (by simp <;> omega)
      replace r4 := k.row r4 (by simp <;> omega)
      replace sb := sb.trans (k.below w.heap.size sb.size (by simp <;> omega))
      clear k
      refine pw_value (by rfl) (.pointer (some ⟨g4, 3, none⟩)) (exec_field 29 _ 3 rfl g4 0 rfl _ Try.underlying29 _ rfl 1 Try.sizeOf24) ?_
      simp only [Act.put, pu]
      refine pw_value (by rfl) (.pointer (some ⟨g4, 4, none⟩)) (exec_field 24 _ 1 rfl g4 3 rfl _ Try.underlying24 _ rfl 0 Try.sizeOf3) ?_
      simp only [Act.put, pu]
      refine pw_putv (by rfl) 3 _ _ rfl _ (4) rfl r4 (.int .i64 (cl : Nat)) rfl rfl rfl size1tint (by exact (by decide : 4 < 8)) (msC (kd : Nat) (op : Nat) key (sq : Nat) (cl : Nat) [] none 0 0 none 0 0) rfl ?_
      clear r4
      intro z8003 r4 k
      simp only [Act.put]
      replace r2 := k.row r2 (by simp <;> omega)
      replace r3 := k.row r3 (by simp <;> omega)
      replace sb := sb.trans (k.below w.heap.size sb.size (by simp <;> omega))
      clear k
      refine pw_nil ?_
      cases h5 : gT L5 1 with
      | none =>
       have hno : tz s = none := tz_none (HR5.out.trans (rz6_no h5))
       (repeat ((fail_if_success with_reducible refine rg ?_); go_step))
       refine wp_region_pw ?_
       refine pw_callP (by rfl) 31 _ _ rfl Try.func31 (by kernel_rfl) #[.pointer (some ⟨g3, 0, none⟩), .int .i64 1] rfl (gT_none r3 (by decide) (by decide) h5) ?_
       intro z9000 k
       exact ⟨rfl, .inl ⟨hno, rfl⟩, sb.trans (k.below w.heap.size sb.size (by simp <;> omega))⟩
      | some p5 =>
       obtain ⟨dg, L6⟩ := p5
       have HR6 : Hid (rz s = rz7 kd op key sq cl dg L6) := HR5.out.trans (rz6_yes h5)
       have hldg := (gT_is h5).2
       clear HR5
       (repeat ((fail_if_success with_reducible refine rg ?_); go_step))
       refine wp_region_pw ?_
       refine pw_callE (by rfl) 31 _ _ rfl Try.func31 (by kernel_rfl) #[.pointer (some ⟨g3, 0, none⟩), .int .i64 1] rfl (gT_some r3 (by decide) (by decide) h5) ?_
       have cr3 := r3.lt
       clear r3
       rintro _ z9000 ⟨rfl, r3, k⟩
       refine ⟨_, rfl, ?_⟩
       simp only [Act.put, pu]
       clear cr3
       replace r2 := k.row r2 (by simp <;> omega)
       replace r4 := k.row r4 (by simp <;> omega)
       replace sb := sb.trans (k.below w.heap.size sb.size (by simp <;> omega))
       clear k
       refine pw_value (by rfl) (.pointer (some ⟨g4, 5, none⟩)) (exec_field 29 _ 4 rfl g4 0 rfl _ Try.underlying29 _ rfl 0 Try.sizeOf9) ?_
       simp only [Act.put, pu]
       refine pw_putv (by rfl) 9 _ _ rfl _ (5) rfl r4 (.string ⟨dg.toArray⟩) rfl rfl rfl size1tstring (by exact (by decide : 5 < 8)) (msC (kd : Nat) (op : Nat) key (sq : Nat) (cl : Nat) dg none 0 0 none 0 0) rfl ?_
       clear r4
       intro z9002 r4 k
       simp only [Act.put]
       replace r2 := k.row r2 (by simp <;> omega)
       replace r3 := k.row r3 (by simp <;> omega)
       replace sb := sb.trans (k.below w.heap.size sb.size (by simp <;> omega))
       clear k
       refine pw_nil ?_
       cases h6 : gT L6 2 with
       | none =>
        have hno : tz s = none := tz_none (HR6.out.trans (rz7_no h6))
        (repeat ((fail_if_success with_reducible refine rg ?_); go_step))
        refine wp_region_pw ?_
        refine pw_callP (by rfl) 31 _ _ rfl Try.func31 (by kernel_rfl) #[.pointer (some ⟨g3, 0, none⟩), .int .i64 2] rfl (gT_none r3 (by decide) (by decide) h6) ?_
        intro z10000 k
        exact ⟨rfl, .inl ⟨hno, rfl⟩, sb.trans (k.below w.heap.size sb.size (by simp <;> omega))⟩
       | some p6 =>
        obtain ⟨X, L7⟩ := p6
        have HR7 : Hid (rz s = (gZ X L7).bind fun y => some (⟨kd, op, key, sq, cl, dg, X, y.1⟩, y.2)) := HR6.out.trans (rz7_yes h6)
        have hlX := (gT_is h6).2
        clear HR6
        (repeat ((fail_if_success with_reducible refine rg ?_); go_step))
        refine wp_region_pw ?_
        refine pw_callE (by rfl) 31 _ _ rfl Try.func31 (by kernel_rfl) #[.pointer (some ⟨g3, 0, none⟩), .int .i64 2] rfl (gT_some r3 (by decide) (by decide) h6) ?_
        have cr3 := r3.lt
        clear r3
        rintro _ z10000 ⟨rfl, r3, k⟩
        refine ⟨_, rfl, ?_⟩
        simp only [Act.put, pu]
        clear cr3
        replace r2 := k.row r2 (by simp <;> omega)
        replace r4 := k.row r4 (by simp <;> omega)
        replace sb := sb.trans (k.below w.heap.size sb.size (by simp <;> omega))
        clear k
        refine pw_as (by rfl) rfl rfl ?_
        simp only [Act.put, pu]
        refine pw_nil ?_
        by_cases hX : X = []
        ·subst hX
         obtain ⟨L8, hL8⟩ : ∃ L, L7 = L := ⟨_, rfl⟩
         have hrz : rz s = some (⟨kd, op, key, sq, cl, dg, [], []⟩, L8) := by rw [HR7.out, gZ_nil, hL8]; rfl
         rw [hL8] at r3
         clear HR7 hL8
         have hC := fun w' (h : MtA w' none 0 (NX []) (MZ [])) => wCheck_any (kd : Nat) (op : Nat) key (sq : Nat) (cl : Nat) dg none 0 0 none 0 0 (NX []) (MZ []) w' (by omega) (by decide) h
         rw [xmB_0] at hC
         rw [show wmB (kd : Nat) (op : Nat) key (sq : Nat) (cl : Nat) dg (brB 0 0) (dlB 0 0 []) = wmD ⟨kd, op, key, sq, cl, dg, [], []⟩ by unfold wmD; rw [nX_nil]; rfl] at hC
         have hmd : mD ⟨kd, op, key, sq, cl, dg, [], []⟩ none 0 none 0 = msC (kd : Nat) (op : Nat) key (sq : Nat) (cl : Nat) dg none 0 0 none 0 0 := by unfold mD; rw [nX_nil]; rfl
         (repeat ((fail_if_success with_reducible refine rg ?_); go_step))
         refine wp_region_pw ?_
         refine pw_mv (by rfl) rfl rfl ?_
         simp only [Act.put, pu]
         refine pw_value (by rfl) (.bool false) (y_neS _ _ _ _ rfl [] [] rfl rfl false (by simp)) ?_
         simp only [Act.put, pu]
         refine pw_nil ?_
         by_cases hR : L8 = []
         rotate_left
         ·have hno : tz s = none := tz_more hrz hR
          (repeat ((fail_if_success with_reducible refine rg ?_); go_step))
          refine wp_region_pw ?_
          refine pw_value (by rfl) (.pointer (some ⟨g3, 0, none⟩)) (exec_field 64 _ 0 rfl g3 0 rfl _ Try.underlying64 _ rfl 0 Try.sizeOf9) ?_
          simp only [Act.put, pu]
          refine pw_loadk (by rfl) 9 _ rfl _ (0) rfl r3.r (.string ⟨L8.toArray⟩) rfl Try.isAgg9 ?_
          simp only [Act.put, pu]
          refine pw_value (by rfl) (.bool false) (y_eqS _ _ _ _ rfl L8 [] rfl rfl false (by simp [hR])) ?_
          simp only [Act.put, pu]
          refine pw_mv (by rfl) rfl rfl ?_
          simp only [Act.put, pu]
          refine pw_skip (by rfl) ?_
          simp only [Act.put, pu]
          refine pw_skip (by rfl) ?_
          simp only [Act.put, pu]
          refine pw_skip (by rfl) ?_
          simp only [Act.put, pu]
          refine pw_pick (by rfl) false (v := .bool false) rfl rfl rfl ?_
          simp only [Act.put, pu]
          refine pw_callP (by rfl) 24 _ _ rfl Try.func24 (by kernel_rfl) #[.bool false, .int .i64 4] rfl (insist_any false 4 _) ?_
          intro z19008 hb
          exact ⟨rfl, .inl ⟨hno, rfl⟩, below_on sb (Nat.le_refl _) hb⟩
         subst hR
         cases hW : wmD ⟨kd, op, key, sq, cl, dg, [], []⟩ with
         | false =>
          have hno : tz s = none := tz_bad hrz hW
          rw [hW] at hC
          (repeat ((fail_if_success with_reducible refine rg ?_); go_step))
          refine wp_region_pw ?_
          refine pw_value (by rfl) (.pointer (some ⟨g3, 0, none⟩)) (exec_field 64 _ 0 rfl g3 0 rfl _ Try.underlying64 _ rfl 0 Try.sizeOf9) ?_
          simp only [Act.put, pu]
          refine pw_loadk (by rfl) 9 _ rfl _ (0) rfl r3.r (.string ⟨#[]⟩) rfl Try.isAgg9 ?_
          simp only [Act.put, pu]
          refine pw_value (by rfl) (.bool true) (y_eqS _ _ _ _ rfl [] [] rfl rfl true (by simp)) ?_
          simp only [Act.put, pu]
          refine pw_mv (by rfl) rfl rfl ?_
          simp only [Act.put, pu]
          refine pw_loadm (by rfl) 29 _ rfl _ (0) rfl r4.r (msC (kd : Nat) (op : Nat) key (sq : Nat) (cl : Nat) dg none 0 0 none 0 0) (part_all _) _ Try.underlying29 rfl size_ms ?_
          simp only [Act.put, pu]
          refine pw_callB (by rfl) 11 _ _ rfl Try.func11 (by kernel_rfl) #[.agg (msC (kd : Nat) (op : Nat) key (sq : Nat) (cl : Nat) dg none 0 0 none 0 0)] rfl _ (hC _ (mtA_nil _ _ _)) ?_
          intro z19005 k
          simp only [Act.put, pu]
          replace r2 := k.row r2 (by simp <;> omega)
          replace r3 := k.row r3 (by simp <;> omega)
          replace r4 := k.row r4 (by simp <;> omega)
          replace sb := sb.trans (k.below w.heap.size sb.size (by simp <;> omega))
          clear k
          refine pw_value (by rfl) (.bool false) (x_eqI _ _ _ _ rfl .i64 1 0 rfl rfl false rfl) ?_
          simp only [Act.put, pu]
          refine pw_pick (by rfl) true (v := .bool false) rfl rfl rfl ?_
          simp only [Act.put, pu]
          refine pw_callP (by rfl) 24 _ _ rfl Try.func24 (by kernel_rfl) #[.bool false, .int .i64 4] rfl (insist_any false 4 _) ?_
          intro z19008 hb
          exact ⟨rfl, .inl ⟨hno, rfl⟩, below_on sb (Nat.le_refl _) hb⟩
         | true =>
          have hyes : tz s = some ⟨kd, op, key, sq, cl, dg, [], []⟩ := tz_ok hl hrz hW
          rw [hW] at hC
          (repeat ((fail_if_success with_reducible refine rg ?_); go_step))
          refine wp_region_pw ?_
          refine pw_value (by rfl) (.pointer (some ⟨g3, 0, none⟩)) (exec_field 64 _ 0 rfl g3 0 rfl _ Try.underlying64 _ rfl 0 Try.sizeOf9) ?_
          simp only [Act.put, pu]
          refine pw_loadk (by rfl) 9 _ rfl _ (0) rfl r3.r (.string ⟨#[]⟩) rfl Try.isAgg9 ?_
          simp only [Act.put, pu]
          refine pw_value (by rfl) (.bool true) (y_eqS _ _ _ _ rfl [] [] rfl rfl true (by simp)) ?_
          simp only [Act.put, pu]
          refine pw_mv (by rfl) rfl rfl ?_
          simp only [Act.put, pu]
          refine pw_loadm (by rfl) 29 _ rfl _ (0) rfl r4.r (msC (kd : Nat) (op : Nat) key (sq : Nat) (cl : Nat) dg none 0 0 none 0 0) (part_all _) _ Try.underlying29 rfl size_ms ?_
          simp only [Act.put, pu]
          refine pw_callB (by rfl) 11 _ _ rfl Try.func11 (by kernel_rfl) #[.agg (msC (kd : Nat) (op : Nat) key (sq : Nat) (cl : Nat) dg none 0 0 none 0 0)] rfl _ (hC _ (mtA_nil _ _ _)) ?_
          intro z19005 k
          simp only [Act.put, pu]
          replace r2 := k.row r2 (by simp <;> omega)
          replace r3 := k.row r3 (by simp <;> omega)
          replace r4 := k.row r4 (by simp <;> omega)
          replace sb := sb.trans (k.below w.heap.size sb.size (by simp <;> omega))
          clear k
          refine pw_value (by rfl) (.bool true) (x_eqI _ _ _ _ rfl .i64 0 0 rfl rfl true rfl) ?_
          simp only [Act.put, pu]
          refine pw_pick (by rfl) true (v := .bool true) rfl rfl rfl ?_
          simp only [Act.put, pu]
          refine pw_callB (by rfl) 24 _ _ rfl Try.func24 (by kernel_rfl) #[.bool true, .int .i64 4] rfl _ (insist_any true 4 _) ?_
          intro z19008 k
          simp only [Act.put, pu]
          replace r2 := k.row r2 (by simp <;> omega)
          replace r3 := k.row r3 (by simp <;> omega)
          replace r4 := k.row r4 (by simp <;> omega)
          replace sb := sb.trans (k.below w.heap.size sb.size (by simp <;> omega))
          clear k
          refine pw_nil ?_
          (repeat ((fail_if_success with_reducible refine rg ?_); go_step))
          apply wp_region_mix (by kernel_rfl) [(g4, 29, msC (kd : Nat) (op : Nat) key (sq : Nat) (cl : Nat) dg none 0 0 none 0 0)] [_, _, _, _, _, _, _, _, _, _] ⟨r4, trivial⟩ (by simp <;> omega)
          ·intro p
           refine mx_val (.pointer (some ⟨g4, 2, none⟩)) (exec_field 29 _ 2 rfl g4 0 rfl _ Try.underlying29 _ rfl 0 Try.sizeOf9) ?_
           simp only [Act.put, pu]
           refine mx_loadcT 0 9 _ rfl (2) rfl rfl (.string ⟨key.toArray⟩) rfl Try.isAgg9 ?_
           simp only [Act.put, pu]
           refine mx_call 36 _ _ rfl Try.func36 (by kernel_rfl) #[.string ⟨key.toArray⟩] rfl _ (fun w' => clone_any key w' (by omega)) ?_
           simp only [Act.put, pu]
           refine mx_val (.pointer (some ⟨g4, 5, none⟩)) (exec_field 29 _ 4 rfl g4 0 rfl _ Try.underlying29 _ rfl 0 Try.sizeOf9) ?_
           simp only [Act.put, pu]
           refine mx_loadcT 0 9 _ rfl (5) rfl rfl (.string ⟨dg.toArray⟩) rfl Try.isAgg9 ?_
           simp only [Act.put, pu]
           refine mx_call 36 _ _ rfl Try.func36 (by kernel_rfl) #[.string ⟨dg.toArray⟩] rfl _ (fun w' => clone_any dg w' (by omega)) ?_
           simp only [Act.put, pu]
           refine mx_val (.pointer (some ⟨g4, 2, none⟩)) (exec_field 29 _ 2 rfl g4 0 rfl _ Try.underlying29 _ rfl 0 Try.sizeOf9) ?_
           simp only [Act.put, pu]
           refine mx_putv 0 9 _ _ rfl 2 rfl rfl (.string ⟨key.toArray⟩) rfl rfl rfl size1tstring (by exact (by decide : 2 < 8)) (msC (kd : Nat) (op : Nat) key (sq : Nat) (cl : Nat) dg none 0 0 none 0 0) rfl ?_
           simp only [Act.put]
           refine mx_val (.pointer (some ⟨g4, 5, none⟩)) (exec_field 29 _ 4 rfl g4 0 rfl _ Try.underlying29 _ rfl 0 Try.sizeOf9) ?_
           simp only [Act.put, pu]
           refine mx_putv 0 9 _ _ rfl 5 rfl rfl (.string ⟨dg.toArray⟩) rfl rfl rfl size1tstring (by exact (by decide : 5 < 8)) (msC (kd : Nat) (op : Nat) key (sq : Nat) (cl : Nat) dg none 0 0 none 0 0) rfl ?_
           simp only [Act.put]
           refine mx_end ?_
           intro w20 hkw hrw hnew hdis
           have zr4 : Row w20 (g4) (msC (kd : Nat) (op : Nat) key (sq : Nat) (cl : Nat) dg none 0 0 none 0 0) 29 := hrw 0 (29, msC (kd : Nat) (op : Nat) key (sq : Nat) (cl : Nat) dg none 0 0 none 0 0) rfl
           replace r2 := hkw.row r2 (by simp <;> omega)
           replace sb := sb.trans (hkw.below w.heap.size sb.size (by simp <;> omega))
           clear hkw hrw hnew hdis r4
           have r4 := zr4
           clear zr4
           (repeat ((fail_if_success with_reducible refine rg ?_); go_step))
           refine wp_region_pw ?_
           refine pw_loadm (by rfl) 29 _ rfl _ (0) rfl r4.r (msC (kd : Nat) (op : Nat) key (sq : Nat) (cl : Nat) dg none 0 0 none 0 0) (part_all _) _ Try.underlying29 rfl size_ms ?_
           simp only [Act.put, pu]
           refine pw_put (by rfl) 29 _ _ rfl _ rfl r2 (msC (kd : Nat) (op : Nat) key (sq : Nat) (cl : Nat) dg none 0 0 none 0 0) rfl (by exact size_ms) (by rfl) (ms_one _ _ _ _ _ _ _ _ _ _ _ _) ?_
           clear r2
           intro z21001 r2 k
           simp only [Act.put]
           replace r4 := k.row r4 (by simp <;> omega)
           replace sb := sb.trans (k.below w.heap.size sb.size (by simp <;> omega))
           clear k
           refine pw_nil ?_
           go_wp2
           exact ret_rowd rfl _ rfl r2 _ Try.underlying29 (by exact size_ms) rfl ⟨.inr ⟨⟨kd, op, key, sq, cl, dg, [], []⟩, _, _, _, _, hyes, congrArg (fun c => Ending.returned (Value.agg c)) hmd.symm, fun w3 S _ _ => ⟨by show MtA _ none (nX []) _ _; rw [nX_nil]; exact mtA_nil _ _ _, 0, 0, #[], 0, ⟨.inl rfl, fun i hi => absurd hi (Nat.not_lt_zero i)⟩⟩⟩, sb⟩
          ·kernel_rfl
        ·skip
         (repeat ((fail_if_success with_reducible refine rg ?_); go_step))
         refine wp_region_pw ?_
         refine pw_mv (by rfl) rfl rfl ?_
         simp only [Act.put, pu]
         refine pw_value (by rfl) (.bool true) (y_neS _ _ _ _ rfl X [] rfl rfl true (by simp [hX])) ?_
         simp only [Act.put, pu]
         refine pw_nil ?_
         cases hg : gX X with
         | false =>
          have hno : tz s = none := tz_none (by rw [HR7.out, gZ_no hX hg]; rfl)
          (repeat ((fail_if_success with_reducible refine rg ?_); go_step))
          refine wp_region_pw ?_
          refine pw_mv (by rfl) rfl rfl ?_
          simp only [Act.put, pu]
          refine pw_callB (by rfl) 33 _ _ rfl Try.func33 (by kernel_rfl) #[.string ⟨X.toArray⟩] rfl _ (mtk_no X _ (by omega) (gX_no hg)) ?_
          intro z12001 k
          simp only [Act.put, pu]
          replace r2 := k.row r2 (by simp <;> omega)
          replace r3 := k.row r3 (by simp <;> omega)
          replace r4 := k.row r4 (by simp <;> omega)
          replace sb := sb.trans (k.below w.heap.size sb.size (by simp <;> omega))
          clear k
          refine pw_ext (by rfl) rfl rfl rfl ?_
          simp only [Act.put, pu]
          refine pw_ext (by rfl) rfl rfl rfl ?_
          simp only [Act.put, pu]
          refine pw_callP (by rfl) 32 _ _ rfl Try.func32 (by kernel_rfl) #[.slice none 0 0, .int .i64 4] rfl (sureM_no none 0 0 _) ?_
          intro z12004 hb
          exact ⟨rfl, .inl ⟨hno, rfl⟩, below_on sb (Nat.le_refl _) hb⟩
         | true =>
          have hXo := gX_yes hg
          obtain ⟨hnb, hn1⟩ := nX_bf hXo
          have hn25 := nX_le X
          have hk7 := kX_le X
          have HR8 : Hid (rz s = (gY L7 (nX X)).bind fun y => some (⟨kd, op, key, sq, cl, dg, X, y.1⟩, y.2)) := by rw [HR7.out, gZ_yes hX hg, ← hnb]; exact rfl
          clear HR7 hnb
          (repeat ((fail_if_success with_reducible refine rg ?_); go_step))
          refine wp_region_pw ?_
          refine pw_mv (by rfl) rfl rfl ?_
          simp only [Act.put, pu]
          have lB0 := sb.size; have l2 := r2.lt; have l3 := r3.lt; have l4 := r4.lt
          refine pw_callE (by rfl) 33 _ _ rfl Try.func33 (by kernel_rfl) #[.string ⟨X.toArray⟩] rfl (mtk_yes X _ (by omega) hXo) ?_
          rintro _ z12001 ⟨gM, R, rfl, nM, rM, hM, hb⟩
          refine ⟨_, rfl, ?_⟩
          simp only [Act.put, pu]
          have d2xM := Nat.lt_of_lt_of_le r2.lt nM
          have d3xM := Nat.lt_of_lt_of_le r3.lt nM
          have d4xM := Nat.lt_of_lt_of_le r4.lt nM
          have bM := Nat.le_trans sb.size nM
          clear nM
          have k := Kept.ofBelow hb
          clear hb
          replace r2 := k.row r2 (by simp <;> omega)
          replace r3 := k.row r3 (by simp <;> omega)
          replace r4 := k.row r4 (by simp <;> omega)
          replace sb := sb.trans (k.below w.heap.size sb.size (by simp <;> omega))
          clear k
          refine pw_ext (by rfl) rfl rfl rfl ?_
          simp only [Act.put, pu]
          refine pw_ext (by rfl) rfl rfl rfl ?_
          simp only [Act.put, pu]
          have hMx2 : ∀ j, j < nX X → R j ≠ g2 := fun j hj => Nat.ne_of_gt (Nat.lt_of_lt_of_le l2 (hM.low j hj)); have hMx3 : ∀ j, j < nX X → R j ≠ g3 := fun j hj => Nat.ne_of_gt (Nat.lt_of_lt_of_le l3 (hM.low j hj)); have hMx4 : ∀ j, j < nX X → R j ≠ g4 := fun j hj => Nat.ne_of_gt (Nat.lt_of_lt_of_le l4 (hM.low j hj)); clear l2 l3 l4
          refine pw_callB (by rfl) 32 _ _ rfl Try.func32 (by kernel_rfl) #[.slice (some ⟨gM, 0, none⟩) (nX X) (nX X), .int .i64 0] rfl _ (sureM_ok _ _ _ _) ?_
          intro z12004 k
          simp only [Act.put, pu]
          replace r2 := k.row r2 (by simp <;> omega)
          replace r3 := k.row r3 (by simp <;> omega)
          replace r4 := k.row r4 (by simp <;> omega)
          replace rM := k.row rM (by simp <;> omega)
          replace hM := hM.below k.nil
          replace sb := sb.trans (k.below w.heap.size sb.size (by simp <;> omega))
          clear k
          refine pw_value (by rfl) (.pointer (some ⟨g4, 6, none⟩)) (exec_field 29 _ 5 rfl g4 0 rfl _ Try.underlying29 _ rfl 0 Try.sizeOf26) ?_
          simp only [Act.put, pu]
          refine pw_putv (by rfl) 26 _ _ rfl _ (6) rfl r4 (.slice (some ⟨gM, 0, none⟩) (nX X) (nX X)) rfl rfl rfl size1tapiatrix (by exact (by decide : 6 < 8)) (msC (kd : Nat) (op : Nat) key (sq : Nat) (cl : Nat) dg (some ⟨gM, 0, none⟩) (nX X) (nX X) none 0 0) rfl ?_
          clear r4
          intro z12006 r4 k
          simp only [Act.put]
          replace r2 := k.row r2 (by simp <;> omega)
          replace r3 := k.row r3 (by simp <;> omega)
          replace rM := k.row rM (by simp <;> omega)
          replace hM := hM.on k (fun j hj => by simpa using hMx4 j hj)
          replace sb := sb.trans (k.below w.heap.size sb.size (by simp <;> omega))
          clear k
          refine pw_nil ?_
          have HX : Hid (∀ B w', Row w' gM (vsC (nX X) (fun j => .slice (some ⟨R j, 0, none⟩) (kX X) (kX X))) 27 → FamAt w' B (kX X) R (MZ X) (nX X) → MtA w' (some ⟨gM, 0, none⟩) (nX X) (NX X) (MZ X)) := fun B w' a b => mtA_fam a b (MZ_lt hXo)
          have HC : Hid (∀ gYY (ts : List (List UInt8)) w', ts.length = nX X → MtA w' (some ⟨gM, 0, none⟩) (nX X) (NX X) (MZ X) → Calls Try.prog 11 #[.agg (msC (kd : Nat) (op : Nat) key (sq : Nat) (cl : Nat) dg (some ⟨gM, 0, none⟩) (nX X) (nX X) (some ⟨gYY, 0, none⟩) (nX X) (nX X))] w' fun e w2 => e = .returned (.int .i64 (chI (wmD ⟨kd, op, key, sq, cl, dg, X, ts⟩) 1)) ∧ Below w'.heap.size w' w2) := fun gYY ts w' hts h => by
           have := wCheck_any (kd : Nat) (op : Nat) key (sq : Nat) (cl : Nat) dg (some ⟨gM, 0, none⟩) (nX X) (nX X) (some ⟨gYY, 0, none⟩) (nX X) (nX X) (NX X) (MZ X) w' (by omega) (by omega) h
           rw [xmB_X (.inr hXo)] at this
           unfold wmD
           rw [hts]
           exact this
          have HD : Hid (∀ (ts : List (List UInt8)) (gYY : Nat), ts.length = nX X → mD ⟨kd, op, key, sq, cl, dg, X, ts⟩ (some ⟨gM, 0, none⟩) (nX X) (some ⟨gYY, 0, none⟩) (nX X) = msC (kd : Nat) (op : Nat) key (sq : Nat) (cl : Nat) dg (some ⟨gM, 0, none⟩) (nX X) (nX X) (some ⟨gYY, 0, none⟩) (nX X) (nX X)) := fun ts gYY hts => by unfold mD; rw [hts]
          have HI : Hid (∀ (ts : List (List UInt8)) (a1 a2 : Option Addr) w', ts.length = nX X → MtA w' a1 (nX X) (NX X) (MZ X) → YsA w' a2 (nX X) (Yt ts) → InM w' ⟨kd, op, key, sq, cl, dg, X, ts⟩ a1 a2) := fun ts a1 a2 w' hts h1 h2 => ⟨h1, by rw [show (⟨kd, op, key, sq, cl, dg, X, ts⟩ : RD).ys.length = nX X from hts]; exact h2⟩
          clear hXo hg hX
          generalize nX X = n at *
          generalize kX X = kk at *
          generalize NX X = NN at *
          generalize MZ X = MM at *
          (repeat ((fail_if_success with_reducible refine rg ?_); go_step))
          refine wp_region_pw ?_
          refine pw_value (by rfl) (.pointer (some ⟨g4, 6, none⟩)) (exec_field 29 _ 5 rfl g4 0 rfl _ Try.underlying29 _ rfl 0 Try.sizeOf26) ?_
          simp only [Act.put, pu]
          refine pw_loadk (by rfl) 26 _ rfl _ (6) rfl r4.r (.slice (some ⟨gM, 0, none⟩) n n) rfl Try.isAgg26 ?_
          simp only [Act.put, pu]
          refine pw_value (by rfl) (.int .i64 (n : Nat)) (exec_len_s 26 _ rfl (some ⟨gM, 0, none⟩) n n rfl sl_mw) ?_
          simp only [Act.put, pu]
          refine pw_make (by rfl) 27 51 _ _ rfl ie _ Try.underlying27 hie hze n rfl rfl (by rw [hsz]; omega) (by rw [hby]; omega) (by omega) ?_
          intro gV z13003 n0 rV k
          simp only [Act.put, pu]
          have d2xV := Nat.lt_of_lt_of_le r2.lt n0
          have d3xV := Nat.lt_of_lt_of_le r3.lt n0
          have d4xV := Nat.lt_of_lt_of_le r4.lt n0
          have dMxV := Nat.lt_of_lt_of_le rM.lt n0
          have hMxV := fun j hj => Nat.ne_of_lt (Nat.lt_of_lt_of_le (hM.lt (j := j) hj) n0)
          have bV := Nat.le_trans sb.size n0
          clear n0
          replace r2 := k.row r2 (by simp <;> omega)
          replace r3 := k.row r3 (by simp <;> omega)
          replace r4 := k.row r4 (by simp <;> omega)
          replace rM := k.row rM (by simp <;> omega)
          replace hM := hM.below k.nil
          replace sb := sb.trans (k.below w.heap.size sb.size (by simp <;> omega))
          clear k
          refine pw_value (by rfl) (.pointer (some ⟨g4, 7, none⟩)) (exec_field 29 _ 6 rfl g4 0 rfl _ Try.underlying29 _ rfl 0 Try.sizeOf27) ?_
          simp only [Act.put, pu]
          refine pw_putv (by rfl) 27 _ _ rfl _ (7) rfl r4 (.slice (some ⟨gV, 0, none⟩) n n) rfl rfl rfl size1tapiat (by exact (by decide : 7 < 8)) (msC (kd : Nat) (op : Nat) key (sq : Nat) (cl : Nat) dg (some ⟨gM, 0, none⟩) n n (some ⟨gV, 0, none⟩) n n) rfl ?_
          clear r4
          intro z13005 r4 k
          simp only [Act.put]
          replace r2 := k.row r2 (by simp <;> omega)
          replace r3 := k.row r3 (by simp <;> omega)
          replace rM := k.row rM (by simp <;> omega)
          replace hM := hM.on k (fun j hj => by simpa using hMx4 j hj)
          replace rV := k.row rV (by simp <;> omega)
          replace sb := sb.trans (k.below w.heap.size sb.size (by simp <;> omega))
          clear k
          refine pw_nil ?_
          rw [hsz, made_nats, yt_nil] at rV
          (repeat ((fail_if_success with_reducible refine rg ?_); go_step))
          refine wp_region_pw ?_
          refine pw_value (by rfl) (.pointer (some ⟨g4, 7, none⟩)) (exec_field 29 _ 6 rfl g4 0 rfl _ Try.underlying29 _ rfl 0 Try.sizeOf27) ?_
          simp only [Act.put, pu]
          refine pw_loadk (by rfl) 27 _ rfl _ (7) rfl r4.r (.slice (some ⟨gV, 0, none⟩) n n) rfl Try.isAgg27 ?_
          simp only [Act.put, pu]
          refine pw_value (by rfl) (.int .i64 (n : Nat)) (exec_len_s 27 _ rfl (some ⟨gV, 0, none⟩) n n rfl sl_yw) ?_
          simp only [Act.put, pu]
          refine pw_value (by rfl) (.int .i64 0) (fun _ => rfl) ?_
          simp only [Act.put, pu]
          refine pw_nil ?_
          obtain ⟨BM, hBM, lB⟩ : ∃ B, FamAt _ B kk R MM n ∧ w.heap.size ≤ B := ⟨_, hM, lB0⟩
          clear lB0
          clear hM
          rename FamAt _ _ _ _ _ _ => hM
          have l34 : g3 ≠ g4 := by omega
          have l3Y : g3 ≠ gV := by omega
          have l4Y : g4 ≠ gV := by omega
          have l23 : g2 ≠ g3 := by omega
          have l2Y : g2 ≠ gV := by omega
          have lM3 : gM ≠ g3 := by omega
          have lMY : gM ≠ gV := by omega
          go_wp2_with fail
          go_loopg [6, 44] n (fun x s6 s44 wr => ∃ (i : Nat) (ts : List (List UInt8)) (r : List UInt8), i + x = n ∧ s44 = .int .i64 i ∧ gY L7 i = some (ts, r) ∧ ts.length = i ∧ Row wr g2 (msC 0 0 [] 0 0 [] none 0 0 none 0 0) 29 ∧ Row wr g3 #[.string ⟨r.toArray⟩] 64 ∧ Row wr g4 (msC (kd : Nat) (op : Nat) key (sq : Nat) (cl : Nat) dg (some ⟨gM, 0, none⟩) n n (some ⟨gV, 0, none⟩) n n) 29 ∧ Row wr gV (nsC n (Yt ts)) 51 ∧ Row wr gM (vsC n (fun j => .slice (some ⟨R j, 0, none⟩) kk kk)) 27 ∧ FamAt wr BM kk R MM n ∧ Below w.heap.size w wr)
          case atStart => exact ⟨0, [], L7, by omega, rfl, rfl, rfl, r2, r3, r4, rV, rM, hM, sb⟩
          case round =>
           clear r2 r3 r4 rV rM hM sb
           obtain ⟨i, ts, L8, hi, rfl, hgy, hts, r2, r3, r4, rV, rM, hM, sb⟩ := hrel
           cases gk with
           | zero =>
            obtain rfl : i = n := by omega
            have hrz : rz s = some (⟨kd, op, key, sq, cl, dg, X, ts⟩, L8) := by rw [HR8.out, hgy]; rfl
            have hC := fun w' h => HC.out gV ts w' hts h
            have hmd := HD.out ts gV hts
            have hin := fun w' h1 h2 => HI.out ts (some ⟨gM, 0, none⟩) (some ⟨gV, 0, none⟩) w' hts h1 h2
            clear HR8 hgy HC HD HI hts hi
            (repeat ((fail_if_success with_reducible refine rg ?_); go_step))
            refine wp_region_pw ?_
            refine pw_value (by rfl) (.bool false) (exec_lt_b _ _ _ _ rfl i i rfl rfl false (decide_eq_false (Int.lt_irrefl _))) ?_
            simp only [Act.put, pu]
            refine pw_nil ?_
            by_cases hR : L8 = []
            rotate_left
            ·have hno : tz s = none := tz_more hrz hR
             (repeat ((fail_if_success with_reducible refine rg ?_); go_step))
             refine wp_region_pw ?_
             refine pw_value (by rfl) (.pointer (some ⟨g3, 0, none⟩)) (exec_field 64 _ 0 rfl g3 0 rfl _ Try.underlying64 _ rfl 0 Try.sizeOf9) ?_
             simp only [Act.put, pu]
             refine pw_loadk (by rfl) 9 _ rfl _ (0) rfl r3.r (.string ⟨L8.toArray⟩) rfl Try.isAgg9 ?_
             simp only [Act.put, pu]
             refine pw_value (by rfl) (.bool false) (y_eqS _ _ _ _ rfl L8 [] rfl rfl false (by simp [hR])) ?_
             simp only [Act.put, pu]
             refine pw_mv (by rfl) rfl rfl ?_
             simp only [Act.put, pu]
             refine pw_skip (by rfl) ?_
             simp only [Act.put, pu]
             refine pw_skip (by rfl) ?_
             simp only [Act.put, pu]
             refine pw_skip (by rfl) ?_
             simp only [Act.put, pu]
             refine pw_pick (by rfl) false (v := .bool false) rfl rfl rfl ?_
             simp only [Act.put, pu]
             refine pw_callP (by rfl) 24 _ _ rfl Try.func24 (by kernel_rfl) #[.bool false, .int .i64 4] rfl (insist_any false 4 _) ?_
             intro z19008 hb
             exact ⟨rfl, .inl ⟨hno, rfl⟩, below_on sb (Nat.le_refl _) hb⟩
            subst hR
            cases hW : wmD ⟨kd, op, key, sq, cl, dg, X, ts⟩ with
            | false =>
             have hno : tz s = none := tz_bad hrz hW
             rw [hW] at hC
             (repeat ((fail_if_success with_reducible refine rg ?_); go_step))
             refine wp_region_pw ?_
             refine pw_value (by rfl) (.pointer (some ⟨g3, 0, none⟩)) (exec_field 64 _ 0 rfl g3 0 rfl _ Try.underlying64 _ rfl 0 Try.sizeOf9) ?_
             simp only [Act.put, pu]
             refine pw_loadk (by rfl) 9 _ rfl _ (0) rfl r3.r (.string ⟨#[]⟩) rfl Try.isAgg9 ?_
             simp only [Act.put, pu]
             refine pw_value (by rfl) (.bool true) (y_eqS _ _ _ _ rfl [] [] rfl rfl true (by simp)) ?_
             simp only [Act.put, pu]
             refine pw_mv (by rfl) rfl rfl ?_
             simp only [Act.put, pu]
             refine pw_loadm (by rfl) 29 _ rfl _ (0) rfl r4.r (msC (kd : Nat) (op : Nat) key (sq : Nat) (cl : Nat) dg (some ⟨gM, 0, none⟩) i i (some ⟨gV, 0, none⟩) i i) (part_all _) _ Try.underlying29 rfl size_ms ?_
             simp only [Act.put, pu]
             refine pw_callB (by rfl) 11 _ _ rfl Try.func11 (by kernel_rfl) #[.agg (msC (kd : Nat) (op : Nat) key (sq : Nat) (cl : Nat) dg (some ⟨gM, 0, none⟩) i i (some ⟨gV, 0, none⟩) i i)] rfl _ (hC _ (HX.out _ _ rM hM)) ?_
             intro z19005 k
             simp only [Act.put, pu]
             replace r2 := k.row r2 (by simp <;> omega)
             replace r3 := k.row r3 (by simp <;> omega)
             replace r4 := k.row r4 (by simp <;> omega)
             replace rM := k.row rM (by simp <;> omega)
             replace hM := hM.below k.nil
             replace rV := k.row rV (by simp <;> omega)
             replace sb := sb.trans (k.below w.heap.size sb.size (by simp <;> omega))
             clear k
             refine pw_value (by rfl) (.bool false) (x_eqI _ _ _ _ rfl .i64 1 0 rfl rfl false rfl) ?_
             simp only [Act.put, pu]
             refine pw_pick (by rfl) true (v := .bool false) rfl rfl rfl ?_
             simp only [Act.put, pu]
             refine pw_callP (by rfl) 24 _ _ rfl Try.func24 (by kernel_rfl) #[.bool false, .int .i64 4] rfl (insist_any false 4 _) ?_
             intro z19008 hb
             exact ⟨rfl, .inl ⟨hno, rfl⟩, below_on sb (Nat.le_refl _) hb⟩
            | true =>
             have hyes : tz s = some ⟨kd, op, key, sq, cl, dg, X, ts⟩ := tz_ok hl hrz hW
             rw [hW] at hC
             (repeat ((fail_if_success with_reducible refine rg ?_); go_step))
             refine wp_region_pw ?_
             refine pw_value (by rfl) (.pointer (some ⟨g3, 0, none⟩)) (exec_field 64 _ 0 rfl g3 0 rfl _ Try.underlying64 _ rfl 0 Try.sizeOf9) ?_
             simp only [Act.put, pu]
             refine pw_loadk (by rfl) 9 _ rfl _ (0) rfl r3.r (.string ⟨#[]⟩) rfl Try.isAgg9 ?_
             simp only [Act.put, pu]
             refine pw_value (by rfl) (.bool true) (y_eqS _ _ _ _ rfl [] [] rfl rfl true (by simp)) ?_
             simp only [Act.put, pu]
             refine pw_mv (by rfl) rfl rfl ?_
             simp only [Act.put, pu]
             refine pw_loadm (by rfl) 29 _ rfl _ (0) rfl r4.r (msC (kd : Nat) (op : Nat) key (sq : Nat) (cl : Nat) dg (some ⟨gM, 0, none⟩) i i (some ⟨gV, 0, none⟩) i i) (part_all _) _ Try.underlying29 rfl size_ms ?_
             simp only [Act.put, pu]
             refine pw_callB (by rfl) 11 _ _ rfl Try.func11 (by kernel_rfl) #[.agg (msC (kd : Nat) (op : Nat) key (sq : Nat) (cl : Nat) dg (some ⟨gM, 0, none⟩) i i (some ⟨gV, 0, none⟩) i i)] rfl _ (hC _ (HX.out _ _ rM hM)) ?_
             intro z19005 k
             simp only [Act.put, pu]
             replace r2 := k.row r2 (by simp <;> omega)
             replace r3 := k.row r3 (by simp <;> omega)
             replace r4 := k.row r4 (by simp <;> omega)
             replace rM := k.row rM (by simp <;> omega)
             replace hM := hM.below k.nil
             replace rV := k.row rV (by simp <;> omega)
             replace sb := sb.trans (k.below w.heap.size sb.size (by simp <;> omega))
             clear k
             refine pw_value (by rfl) (.bool true) (x_eqI _ _ _ _ rfl .i64 0 0 rfl rfl true rfl) ?_
             simp only [Act.put, pu]
             refine pw_pick (by rfl) true (v := .bool true) rfl rfl rfl ?_
             simp only [Act.put, pu]
             refine pw_callB (by rfl) 24 _ _ rfl Try.func24 (by kernel_rfl) #[.bool true, .int .i64 4] rfl _ (insist_any true 4 _) ?_
             intro z19008 k
             simp only [Act.put, pu]
             replace r2 := k.row r2 (by simp <;> omega)
             replace r3 := k.row r3 (by simp <;> omega)
             replace r4 := k.row r4 (by simp <;> omega)
             replace rM := k.row rM (by simp <;> omega)
             replace hM := hM.below k.nil
             replace rV := k.row rV (by simp <;> omega)
             replace sb := sb.trans (k.below w.heap.size sb.size (by simp <;> omega))
             clear k
             refine pw_nil ?_
             (repeat ((fail_if_success with_reducible refine rg ?_); go_step))
             apply wp_region_mix (by kernel_rfl) [(g4, 29, msC (kd : Nat) (op : Nat) key (sq : Nat) (cl : Nat) dg (some ⟨gM, 0, none⟩) i i (some ⟨gV, 0, none⟩) i i)] [_, _, _, _, _, _, _, _, _, _] ⟨r4, trivial⟩ (by simp <;> omega)
             ·intro p
              refine mx_val (.pointer (some ⟨g4, 2, none⟩)) (exec_field 29 _ 2 rfl g4 0 rfl _ Try.underlying29 _ rfl 0 Try.sizeOf9) ?_
              simp only [Act.put, pu]
              refine mx_loadcT 0 9 _ rfl (2) rfl rfl (.string ⟨key.toArray⟩) rfl Try.isAgg9 ?_
              simp only [Act.put, pu]
              refine mx_call 36 _ _ rfl Try.func36 (by kernel_rfl) #[.string ⟨key.toArray⟩] rfl _ (fun w' => clone_any key w' (by omega)) ?_
              simp only [Act.put, pu]
              refine mx_val (.pointer (some ⟨g4, 5, none⟩)) (exec_field 29 _ 4 rfl g4 0 rfl _ Try.underlying29 _ rfl 0 Try.sizeOf9) ?_
              simp only [Act.put, pu]
              refine mx_loadcT 0 9 _ rfl (5) rfl rfl (.string ⟨dg.toArray⟩) rfl Try.isAgg9 ?_
              simp only [Act.put, pu]
              refine mx_call 36 _ _ rfl Try.func36 (by kernel_rfl) #[.string ⟨dg.toArray⟩] rfl _ (fun w' => clone_any dg w' (by omega)) ?_
              simp only [Act.put, pu]
              refine mx_val (.pointer (some ⟨g4, 2, none⟩)) (exec_field 29 _ 2 rfl g4 0 rfl _ Try.underlying29 _ rfl 0 Try.sizeOf9) ?_
              simp only [Act.put, pu]
              refine mx_putv 0 9 _ _ rfl 2 rfl rfl (.string ⟨key.toArray⟩) rfl rfl rfl size1tstring (by exact (by decide : 2 < 8)) (msC (kd : Nat) (op : Nat) key (sq : Nat) (cl : Nat) dg (some ⟨gM, 0, none⟩) i i (some ⟨gV, 0, none⟩) i i) rfl ?_
              simp only [Act.put]
              refine mx_val (.pointer (some ⟨g4, 5, none⟩)) (exec_field 29 _ 4 rfl g4 0 rfl _ Try.underlying29 _ rfl 0 Try.sizeOf9) ?_
              simp only [Act.put, pu]
              refine mx_putv 0 9 _ _ rfl 5 rfl rfl (.string ⟨dg.toArray⟩) rfl rfl rfl size1tstring (by exact (by decide : 5 < 8)) (msC (kd : Nat) (op : Nat) key (sq : Nat) (cl : Nat) dg (some ⟨gM, 0, none⟩) i i (some ⟨gV, 0, none⟩) i i) rfl ?_
              simp only [Act.put]
              refine mx_end ?_
              intro w20 hkw hrw hnew hdis
              have zr4 : Row w20 (g4) (msC (kd : Nat) (op : Nat) key (sq : Nat) (cl : Nat) dg (some ⟨gM, 0, none⟩) i i (some ⟨gV, 0, none⟩) i i) 29 := hrw 0 (29, msC (kd : Nat) (op : Nat) key (sq : Nat) (cl : Nat) dg (some ⟨gM, 0, none⟩) i i (some ⟨gV, 0, none⟩) i i) rfl
              replace r2 := hkw.row r2 (by simp <;> omega)
              replace rM := hkw.row rM (by simp <;> omega)
              replace rV := hkw.row rV (by simp <;> omega)
              replace hM := hM.on hkw (fun j hj => by simp [hMx4 j hj])
              replace sb := sb.trans (hkw.below w.heap.size sb.size (by simp <;> omega))
              clear hkw hrw hnew hdis r4
              have r4 := zr4
              clear zr4
              (repeat ((fail_if_success with_reducible refine rg ?_); go_step))
              refine wp_region_pw ?_
              refine pw_loadm (by rfl) 29 _ rfl _ (0) rfl r4.r (msC (kd : Nat) (op : Nat) key (sq : Nat) (cl : Nat) dg (some ⟨gM, 0, none⟩) i i (some ⟨gV, 0, none⟩) i i) (part_all _) _ Try.underlying29 rfl size_ms ?_
              simp only [Act.put, pu]
              refine pw_put (by rfl) 29 _ _ rfl _ rfl r2 (msC (kd : Nat) (op : Nat) key (sq : Nat) (cl : Nat) dg (some ⟨gM, 0, none⟩) i i (some ⟨gV, 0, none⟩) i i) rfl (by exact size_ms) (by rfl) (ms_one _ _ _ _ _ _ _ _ _ _ _ _) ?_
              clear r2
              intro z21001 r2 k
              simp only [Act.put]
              replace rM := k.row rM (by simp <;> omega)
              replace hM := hM.on k (fun j hj => by simpa using hMx2 j hj)
              replace rV := k.row rV (by simp <;> omega)
              replace r4 := k.row r4 (by simp <;> omega)
              replace sb := sb.trans (k.below w.heap.size sb.size (by simp <;> omega))
              clear k
              refine pw_nil ?_
              go_wp2
              exact ret_rowd rfl _ rfl r2 _ Try.underlying29 (by exact size_ms) rfl ⟨.inr ⟨⟨kd, op, key, sq, cl, dg, X, ts⟩, _, _, _, _, hyes, congrArg (fun c => Ending.returned (Value.agg c)) hmd.symm, fun w3 S k hS => hin w3 (HX.out _ w3 (k.row rM (fun hm => absurd (hS _ hm) (by have := rM.lt; omega))) (hM.on k (fun j hj hm => absurd (hS _ hm) (by have := hM.low j hj; have := hM.lt hj; omega)))) ⟨gV, 0, _, _, nats_ro (k.row rV (fun hm => absurd (hS _ hm) (by have := rV.lt; omega))) (fun j _ => Yt_lt _ j)⟩⟩, sb⟩
             ·kernel_rfl
           | succ x =>
            have hlt : i < n := by omega
            have hgs := gY_s hgy
            (repeat ((fail_if_success with_reducible refine rg ?_); go_step))
            refine wp_region_pw ?_
            refine pw_value (by rfl) (.bool true) (exec_lt_b _ _ _ _ rfl i n rfl rfl true (decide_eq_true (by omega))) ?_
            simp only [Act.put, pu]
            refine pw_nil ?_
            (repeat ((fail_if_success with_reducible refine rg ?_); go_step))
            refine wp_region_pw ?_
            refine pw_mv (by rfl) rfl rfl ?_
            simp only [Act.put, pu]
            refine pw_as (by rfl) rfl rfl ?_
            simp only [Act.put, pu]
            refine pw_nil ?_
            cases hgt : gT L8 1 with
            | none =>
             have hno : tz s = none := tz_none (by rw [HR8.out, gY_up (k := i + 1) (by rw [hgs, hgt]) (by omega)]; rfl)
             (repeat ((fail_if_success with_reducible refine rg ?_); go_step))
             exact rg17_no i n g3 g4 gV _ _ L8 hlt l34 l3Y l4Y r3 r4 rV rfl hgt (fun a w' hdf k => ⟨hdf, .inl ⟨hno, rfl⟩, sb.trans (k.below w.heap.size sb.size (by simp <;> omega))⟩)
            | some p =>
             obtain ⟨tt, L9⟩ := p
             have hz4 : takeE ⟨tt.toArray⟩ = 0 ∨ takeE ⟨tt.toArray⟩ = 4 := by rcases okT_E tt with h | h; exact .inl h.2; exact .inr h.2
             have hno : takeE ⟨tt.toArray⟩ = 4 → tz s = none := fun h4 => tz_none (by
              have ho : okT tt = false := by
               rcases okT_E tt with h | h
               ·rw [h.2] at h4; exact absurd h4 (by decide)
               ·exact h.1
              rw [HR8.out, gY_up (k := i + 1) (by rw [hgs, hgt]; simp [ho]) (by omega)]; rfl)
             have hyes : takeE ⟨tt.toArray⟩ = 0 → gY L7 (i + 1) = some (ts ++ [tt], L9) := fun h0 => by
              have ho : okT tt = true := by
               rcases okT_E tt with h | h
               ·exact h.1
               ·rw [h.2] at h0; exact absurd h0 (by decide)
              rw [hgs, hgt]
              simp [ho]
             clear hgs HR8 HC HD HI HX
             (repeat ((fail_if_success with_reducible refine rg ?_); go_step))
             refine rg17_yes i n g3 g4 gV _ (Yt ts) L8 hlt l34 l3Y l4Y r3 r4 rV rfl tt L9 (Yt (ts ++ [tt])) (takeN ⟨tt.toArray⟩) (takeE ⟨tt.toArray⟩) hgt rfl rfl hz4 (nsC_put n _ _ i hlt _ (by omega) _ (fun j _ => by rw [Yt_app, hts])) (fun a w' hdf h4 k => ⟨hdf, .inl ⟨hno h4, rfl⟩, sb.trans (k.below w.heap.size sb.size (by simp <;> omega))⟩) ?_
             intro wR h0 r3' r4' rV' k
             have hgy2 := hyes h0
             replace r2 := k.row r2 (by simp; omega)
             replace rM := k.row rM (by simp; omega)
             replace hM := hM.on k (fun j hj => by simp [hMx3 j hj, hMxV j hj])
             replace sb := sb.trans (k.below w.heap.size sb.size (by simp <;> omega))
             clear r3 r4 rV k hyes hno hz4 hgy h0
             have r3 := r3'
             have r4 := r4'
             have rV := rV'
             clear r3' r4' rV'
             have hts2 : (ts ++ [tt]).length = i + 1 := by rw [List.length_append, hts]; rfl
             (repeat ((fail_if_success with_reducible refine rg ?_); go_step))
             refine wp_region_pw ?_
             refine pw_value (by rfl) (.int .i64 (i + 1 : Nat)) (exec_add_in _ _ _ _ rfl i 1 rfl rfl (by omega)) ?_
             simp only [Act.put, pu]
             refine pw_mv (by rfl) rfl rfl ?_
             simp only [Act.put, pu]
             refine pw_nil ?_
             go_wp2
             go_roundg x
             case measure => omega
             case rel => exact ⟨i + 1, ts ++ [tt], L9, by omega, rfl, hgy2, hts2, r2, r3, r4, rV, rM, hM, sb⟩
end Go.Proofs.Ytojobffihlmfgaa
/- wire.Take of any bytes. -/
namespace Go.Proofs.Ytojobffihlmfgaa
open Go.RowKit
set_option linter.unusedVariables false
set_option linter.unusedSimpArgs false
set_option linter.unusedSectionVars false
theorem rd_no {s : List UInt8} {w : World} (hs : s.length < 4611686018427387904) (h : tz s = none) :
  Calls Try.prog 15 #[.string ⟨s.toArray⟩] w fun e w' => e = .panicked (wrP 4) ∧ Below w.heap.size w w' := by
 refine (read_any s w hs).mono ?_
 rintro e w' ⟨h1 | ⟨d, _, _, _, _, h1, _⟩, hb⟩
 ·exact ⟨h1.2, hb⟩
 ·rw [h] at h1; cases h1
theorem rd_yes {s : List UInt8} {w : World} {d : RD} (hs : s.length < 4611686018427387904) (h : tz s = some d) :
  Calls Try.prog 15 #[.string ⟨s.toArray⟩] w fun e w' => ∃ a1 c1 a2 c2, e = .returned (.agg (msC (d.kd : Nat) (d.op : Nat) d.key (d.sq : Nat) (d.cl : Nat) d.dg a1 (nX d.X) c1 a2 d.ys.length c2)) ∧ InR w.heap.size w'.heap.size w' d a1 a2 ∧ Below w.heap.size w w' := by
 refine (read_any s w hs).mono ?_
 rintro e w' ⟨h1 | ⟨d', a1, c1, a2, c2, h1, h2, h3⟩, hb⟩
 ·rw [h] at h1; cases h1.1
 ·rw [h] at h1
  obtain rfl := Option.some.inj h1
  exact ⟨a1, c1, a2, c2, h2, h3, hb⟩
def TkA (s : List UInt8) (g4 : Nat) (n : Int) (w1 w2 : World) : Prop := (tz s = none ∧ n = 4 ∧ Row w2 g4 (msC 0 0 [] 0 0 [] none 0 0 none 0 0) 29) ∨ (∃ d a1 c1 a2 c2, tz s = some d ∧ n = 0 ∧ Row w2 g4 (msC (d.kd : Nat) (d.op : Nat) d.key (d.sq : Nat) (d.cl : Nat) d.dg a1 (nX d.X) c1 a2 d.ys.length c2) 29 ∧ InR w1.heap.size w2.heap.size w2 d a1 a2)
set_option maxRecDepth 100000 in
set_option maxHeartbeats 2000000 in
theorem tk1_any (s : List UInt8) (g0 g4 : Nat) (w : World) (hs : s.length < 4611686018427387904) (hg : g0 ≠ g4) (r0 : Row w g0 #[.string ⟨s.toArray⟩] 9) (r1 : Row w g4 (msC 0 0 [] 0 0 [] none 0 0 none 0 0) 29) :
  Calls Try.prog 14 #[.pointer (some ⟨g0, 0, none⟩), .pointer (some ⟨g4, 0, none⟩)] w fun e w2 => Kept [g4] w w2 ∧ ((e = .returned (.tuple #[]) ∧ TkA s g4 0 w w2) ∨ ∃ n, e = .panicked (wrP n) ∧ TkA s g4 n w w2) := by
 have sk := Kept.refl [g4] w
 have l1 := r1.lt
 cases h : tz s with
 | none =>
  go_enter Try.func14, Try.ntmps14
  (repeat ((fail_if_success with_reducible refine rg ?_); go_step))
  refine wp_region_pw ?_
  refine pw_loadk (by rfl) 9 _ rfl _ (0) rfl r0.r (.string ⟨s.toArray⟩) rfl Try.isAgg9 ?_
  simp only [Act.put, pu]
  refine pw_callP (by rfl) 15 _ _ rfl Try.func15 (by kernel_rfl) #[.string ⟨s.toArray⟩] rfl (rd_no hs h) ?_
  intro z1 hb
  exact ⟨rfl, sk.trans (Kept.ofBelow hb) (by simp), .inr ⟨4, rfl, .inl ⟨h, rfl, r1.belowAll hb⟩⟩⟩
 | some d =>
  go_enter Try.func14, Try.ntmps14
  (repeat ((fail_if_success with_reducible refine rg ?_); go_step))
  refine wp_region_pw ?_
  refine pw_loadk (by rfl) 9 _ rfl _ (0) rfl r0.r (.string ⟨s.toArray⟩) rfl Try.isAgg9 ?_
  simp only [Act.put, pu]
  refine pw_callE (by rfl) 15 _ _ rfl Try.func15 (by kernel_rfl) #[.string ⟨s.toArray⟩] rfl (rd_yes hs h) ?_
  rintro _ z1 ⟨a1, c1, a2, c2, rfl, hI, hb⟩
  refine ⟨_, rfl, ?_⟩
  simp only [Act.put, pu]
  have k := Kept.ofBelow hb
  clear hb
  replace r0 := k.row r0 (by simp <;> omega)
  replace r1 := k.row r1 (by simp <;> omega)
  replace sk := sk.trans k (by simp <;> omega)
  clear k
  refine pw_put (by rfl) 29 _ _ rfl _ rfl r1 (msC (d.kd : Nat) (d.op : Nat) d.key (d.sq : Nat) (d.cl : Nat) d.dg a1 (nX d.X) c1 a2 d.ys.length c2) rfl (by exact size_ms) (by rfl) (ms_one _ _ _ _ _ _ _ _ _ _ _ _) ?_
  clear r1
  intro zP r1 k
  simp only [Act.put]
  replace hI := (hI.on k (by simp; omega)).less (Nat.le_refl _) k.size
  replace sk := sk.trans k (by simp)
  clear k
  refine pw_nil ?_
  go_wp2
  first | (go_ret; exact ⟨sk, .inl ⟨rfl, .inr ⟨d, a1, c1, a2, c2, h, rfl, r1, hI⟩⟩⟩) | exact ⟨rfl, _, results_none rfl _ _ _, sk, .inl ⟨rfl, .inr ⟨d, a1, c1, a2, c2, h, rfl, r1, hI⟩⟩⟩
theorem cgt_take (s : List UInt8) (g1 g4 : Nat) (w : World) (hs : s.length < 4611686018427387904) (hg : g1 ≠ g4) (r1 : Row w g1 #[.string ⟨s.toArray⟩] 9) (r4 : Row w g4 (msC 0 0 [] 0 0 [] none 0 0 none 0 0) 29) :
  Calls Try.prog 13 #[.func (.func 14) #[] #[.pointer (some ⟨g1, 0, none⟩), .pointer (some ⟨g4, 0, none⟩)]] w fun e w3 => ((tz s = none ∧ e = .returned (.int .i64 4) ∧ Row w3 g4 (msC 0 0 [] 0 0 [] none 0 0 none 0 0) 29) ∨ ∃ d a1 c1 a2 c2, tz s = some d ∧ e = .returned (.int .i64 0) ∧ Row w3 g4 (msC (d.kd : Nat) (d.op : Nat) d.key (d.sq : Nat) (d.cl : Nat) d.dg a1 (nX d.X) c1 a2 d.ys.length c2) 29 ∧ InR w.heap.size w3.heap.size w3 d a1 a2) ∧ Kept [g4] w w3 := by
 have l4 := r4.lt
 refine (caught_any 14 _ Try.func14 (by kernel_rfl) [g4] (TkA s g4) w (by simpa using l4) (fun w1 h1 => tk1_any s g1 g4 w1 hs hg (r1.belowAll h1) (r4.belowAll h1))).mono ?_
 rintro e w3 ⟨n, w1, w2, g, rfl, h1, hg1, hg2, k2, hA, k3⟩
 have kk : Kept [g4] w w3 := ((Kept.ofBelow h1).more (T := [g4]) (by simp)).trans k2 (by simp) |>.trans k3 (by simp; omega)
 rcases hA with ⟨h, rfl, r⟩ | ⟨d, a1, c1, a2, c2, h, rfl, r, hI⟩
 ·exact ⟨.inl ⟨h, rfl, k3.row r (by simp; omega)⟩, kk⟩
 ·exact ⟨.inr ⟨d, a1, c1, a2, c2, h, rfl, k3.row r (by simp; omega), (hI.on k3 (by simp; omega)).less h1.size k3.size⟩, kk⟩
theorem ct_no {s : List UInt8} {g1 g4 : Nat} {w : World} (hs : s.length < 4611686018427387904) (hg : g1 ≠ g4) (r1 : Row w g1 #[.string ⟨s.toArray⟩] 9) (r4 : Row w g4 (msC 0 0 [] 0 0 [] none 0 0 none 0 0) 29) (h : tz s = none) :
  Calls Try.prog 13 #[.func (.func 14) #[] #[.pointer (some ⟨g1, 0, none⟩), .pointer (some ⟨g4, 0, none⟩)]] w fun e w3 => e = .returned (.int .i64 4) ∧ Row w3 g4 (msC 0 0 [] 0 0 [] none 0 0 none 0 0) 29 ∧ Kept [g4] w w3 := by
 refine (cgt_take s g1 g4 w hs hg r1 r4).mono ?_
 rintro e w3 ⟨h1 | ⟨d, _, _, _, _, h1, _⟩, k⟩
 ·exact ⟨h1.2.1, h1.2.2, k⟩
 ·rw [h] at h1; cases h1
theorem ct_yes {s : List UInt8} {g1 g4 : Nat} {w : World} {d : RD} (hs : s.length < 4611686018427387904) (hg : g1 ≠ g4) (r1 : Row w g1 #[.string ⟨s.toArray⟩] 9) (r4 : Row w g4 (msC 0 0 [] 0 0 [] none 0 0 none 0 0) 29) (h : tz s = some d) :
  Calls Try.prog 13 #[.func (.func 14) #[] #[.pointer (some ⟨g1, 0, none⟩), .pointer (some ⟨g4, 0, none⟩)]] w fun e w3 => ∃ a1 c1 a2 c2, e = .returned (.int .i64 0) ∧ Row w3 g4 (msC (d.kd : Nat) (d.op : Nat) d.key (d.sq : Nat) (d.cl : Nat) d.dg a1 (nX d.X) c1 a2 d.ys.length c2) 29 ∧ InR w.heap.size w3.heap.size w3 d a1 a2 ∧ Kept [g4] w w3 := by
 refine (cgt_take s g1 g4 w hs hg r1 r4).mono ?_
 rintro e w3 ⟨h1 | ⟨d', a1, c1, a2, c2, h1, h2, h3, h4⟩, k⟩
 ·rw [h] at h1; cases h1.1
 ·rw [h] at h1
  obtain rfl := Option.some.inj h1
  exact ⟨a1, c1, a2, c2, h2, h3, h4, k⟩
set_option maxRecDepth 100000 in
set_option maxHeartbeats 2000000 in
theorem wtk_no (s : List UInt8) (w : World) (hs : s.length < 4611686018427387904) (h : tz s = none) :
  Calls Try.prog 6 #[.string ⟨s.toArray⟩] w fun e w' => e = .returned (.tuple #[.agg (msC 0 0 [] 0 0 [] none 0 0 none 0 0), .int .i64 4]) ∧ Below w.heap.size w w' := by
 go_enter Try.func6, Try.ntmps6
 (repeat ((fail_if_success with_reducible refine rg ?_); go_step))
 refine wp_region_pw ?_
 refine pw_box1 (by rfl) 9 _ rfl (.string ⟨s.toArray⟩) rfl rfl ?_
 intro g1 z0 n0 r1 k
 simp only [Act.put, pu]
 have b1 : w.heap.size ≤ g1 := n0
 clear n0
 have sb := k.below w.heap.size (Nat.le_refl _) (by simp)
 clear k
 refine pw_new (by rfl) 29 rfl _ zero_ms ?_
 intro g2 z1 n0 r2 k
 simp only [Act.put, pu]
 have d1x2 := Nat.lt_of_lt_of_le r1.lt n0
 have b2 := Nat.le_trans sb.size n0
 clear n0
 replace r1 := k.row r1 (by simp <;> omega)
 replace sb := sb.trans (k.below w.heap.size sb.size (by simp <;> omega))
 clear k
 refine pw_value (by rfl) (.int .i64 0) (fun _ => rfl) ?_
 simp only [Act.put, pu]
 refine pw_nil ?_
 (repeat ((fail_if_success with_reducible refine rg ?_); go_step))
 refine wp_region_pw ?_
 refine pw_new (by rfl) 29 rfl _ zero_ms ?_
 intro g4 z1000 n0 r4 k
 simp only [Act.put, pu]
 have d1x4 := Nat.lt_of_lt_of_le r1.lt n0
 have d2x4 := Nat.lt_of_lt_of_le r2.lt n0
 have b4 := Nat.le_trans sb.size n0
 clear n0
 replace r1 := k.row r1 (by simp <;> omega)
 replace r2 := k.row r2 (by simp <;> omega)
 replace sb := sb.trans (k.below w.heap.size sb.size (by simp <;> omega))
 clear k
 refine pw_nil ?_
 (repeat ((fail_if_success with_reducible refine rg ?_); go_step))
 refine wp_region_pw ?_
 refine pw_value (by rfl) (.func (.func 14) #[] #[.pointer (some ⟨g1, 0, none⟩), .pointer (some ⟨g4, 0, none⟩)]) (x_mkf _ _ rfl _ rfl) ?_
 simp only [Act.put, pu]
 refine pw_callE (by rfl) 13 _ _ rfl Try.func13 (by kernel_rfl) #[.func (.func 14) #[] #[.pointer (some ⟨g1, 0, none⟩), .pointer (some ⟨g4, 0, none⟩)]] rfl (ct_no hs (by omega) r1 r4 h) ?_
 have cr4 := r4.lt
 clear r4
 rintro _ z2001 ⟨rfl, r4, k⟩
 refine ⟨_, rfl, ?_⟩
 simp only [Act.put, pu]
 clear cr4
 replace r1 := k.row r1 (by simp <;> omega)
 replace r2 := k.row r2 (by simp <;> omega)
 replace sb := sb.trans (k.below w.heap.size sb.size (by simp <;> omega))
 clear k
 refine pw_as (by rfl) rfl rfl ?_
 simp only [Act.put, pu]
 refine pw_nil ?_
 (repeat ((fail_if_success with_reducible refine rg ?_); go_step))
 refine wp_region_pw ?_
 refine pw_loadm (by rfl) 29 _ rfl _ (0) rfl r4.r (msC 0 0 [] 0 0 [] none 0 0 none 0 0) (part_all _) _ Try.underlying29 rfl size_ms ?_
 simp only [Act.put, pu]
 refine pw_mv (by rfl) rfl rfl ?_
 simp only [Act.put, pu]
 refine pw_put (by rfl) 29 _ _ rfl _ rfl r2 (msC 0 0 [] 0 0 [] none 0 0 none 0 0) rfl (by exact size_ms) (by rfl) (ms_one _ _ _ _ _ _ _ _ _ _ _ _) ?_
 clear r2
 intro z3002 r2 k
 simp only [Act.put]
 replace r4 := k.row r4 (by simp <;> omega)
 replace sb := sb.trans (k.below w.heap.size sb.size (by simp <;> omega))
 clear k
 refine pw_as (by rfl) rfl rfl ?_
 simp only [Act.put, pu]
 refine pw_nil ?_
 go_wp2
 exact ret_row2d rfl _ rfl r2 _ Try.underlying29 (by exact size_ms) rfl _ rfl ⟨rfl, sb⟩
set_option maxRecDepth 100000 in
set_option maxHeartbeats 2000000 in
theorem wtk_yes (s : List UInt8) (d : RD) (w : World) (hs : s.length < 4611686018427387904) (h : tz s = some d) :
  Calls Try.prog 6 #[.string ⟨s.toArray⟩] w fun e w' => ∃ a1 c1 a2 c2, e = .returned (.tuple #[.agg (msC (d.kd : Nat) (d.op : Nat) d.key (d.sq : Nat) (d.cl : Nat) d.dg a1 (nX d.X) c1 a2 d.ys.length c2), .int .i64 0]) ∧ InR w.heap.size w'.heap.size w' d a1 a2 ∧ Below w.heap.size w w' := by
 go_enter Try.func6, Try.ntmps6
 (repeat ((fail_if_success with_reducible refine rg ?_); go_step))
 refine wp_region_pw ?_
 refine pw_box1 (by rfl) 9 _ rfl (.string ⟨s.toArray⟩) rfl rfl ?_
 intro g1 z0 n0 r1 k
 simp only [Act.put, pu]
 have b1 : w.heap.size ≤ g1 := n0
 clear n0
 have sb := k.below w.heap.size (Nat.le_refl _) (by simp)
 clear k
 refine pw_new (by rfl) 29 rfl _ zero_ms ?_
 intro g2 z1 n0 r2 k
 simp only [Act.put, pu]
 have d1x2 := Nat.lt_of_lt_of_le r1.lt n0
 have b2 := Nat.le_trans sb.size n0
 clear n0
 replace r1 := k.row r1 (by simp <;> omega)
 replace sb := sb.trans (k.below w.heap.size sb.size (by simp <;> omega))
 clear k
 refine pw_value (by rfl) (.int .i64 0) (fun _ => rfl) ?_
 simp only [Act.put, pu]
 refine pw_nil ?_
 (repeat ((fail_if_success with_reducible refine rg ?_); go_step))
 refine wp_region_pw ?_
 refine pw_new (by rfl) 29 rfl _ zero_ms ?_
 intro g4 z1000 n0 r4 k
 simp only [Act.put, pu]
 have d1x4 := Nat.lt_of_lt_of_le r1.lt n0
 have d2x4 := Nat.lt_of_lt_of_le r2.lt n0
 have b4 := Nat.le_trans sb.size n0
 clear n0
 replace r1 := k.row r1 (by simp <;> omega)
 replace r2 := k.row r2 (by simp <;> omega)
 replace sb := sb.trans (k.below w.heap.size sb.size (by simp <;> omega))
 clear k
 refine pw_nil ?_
 (repeat ((fail_if_success with_reducible refine rg ?_); go_step))
 refine wp_region_pw ?_
 refine pw_value (by rfl) (.func (.func 14) #[] #[.pointer (some ⟨g1, 0, none⟩), .pointer (some ⟨g4, 0, none⟩)]) (x_mkf _ _ rfl _ rfl) ?_
 simp only [Act.put, pu]
 have lB := sb.size; have l2 := r2.lt
 refine pw_callE (by rfl) 13 _ _ rfl Try.func13 (by kernel_rfl) #[.func (.func 14) #[] #[.pointer (some ⟨g1, 0, none⟩), .pointer (some ⟨g4, 0, none⟩)]] rfl (ct_yes hs (by omega) r1 r4 h) ?_
 have cr4 := r4.lt
 clear r4
 rintro _ z2001 ⟨a1, c1, a2, c2, rfl, r4, hI, k⟩
 refine ⟨_, rfl, ?_⟩
 simp only [Act.put, pu]
 clear cr4
 replace r1 := k.row r1 (by simp <;> omega)
 replace r2 := k.row r2 (by simp <;> omega)
 replace sb := sb.trans (k.below w.heap.size sb.size (by simp <;> omega))
 clear k
 refine pw_as (by rfl) rfl rfl ?_
 simp only [Act.put, pu]
 refine pw_nil ?_
 (repeat ((fail_if_success with_reducible refine rg ?_); go_step))
 refine wp_region_pw ?_
 refine pw_loadm (by rfl) 29 _ rfl _ (0) rfl r4.r (msC (d.kd : Nat) (d.op : Nat) d.key (d.sq : Nat) (d.cl : Nat) d.dg a1 (nX d.X) c1 a2 d.ys.length c2) (part_all _) _ Try.underlying29 rfl size_ms ?_
 simp only [Act.put, pu]
 refine pw_mv (by rfl) rfl rfl ?_
 simp only [Act.put, pu]
 refine pw_put (by rfl) 29 _ _ rfl _ rfl r2 (msC (d.kd : Nat) (d.op : Nat) d.key (d.sq : Nat) (d.cl : Nat) d.dg a1 (nX d.X) c1 a2 d.ys.length c2) rfl (by exact size_ms) (by rfl) (ms_one _ _ _ _ _ _ _ _ _ _ _ _) ?_
 clear r2
 intro zP r2 k
 simp only [Act.put]
 replace hI := (hI.on k (by simp; omega)).less (Nat.le_refl _) k.size
 replace sb := sb.trans (k.below w.heap.size sb.size (by simp <;> omega))
 clear k
 refine pw_as (by rfl) rfl rfl ?_
 simp only [Act.put, pu]
 refine pw_nil ?_
 go_wp2
 exact ret_row2d rfl _ rfl r2 _ Try.underlying29 (by exact size_ms) rfl _ rfl ⟨a1, c1, a2, c2, rfl, hI.less lB (Nat.le_refl _), sb⟩
end Go.Proofs.Ytojobffihlmfgaa
/- A message that may be: what is taken of its bytes is it. -/
namespace Go.Proofs.Ytojobffihlmfgaa
open Go.RowKit
set_option linter.unusedVariables false
set_option linter.unusedSimpArgs false
set_option linter.unusedSectionVars false
/-- What is taken of a message's bytes. -/
structure BkF (d : RD) (kd op : Int) (key : List UInt8) (sq cl : Int) (dg : List UInt8) (n m : Nat) (N : Nat → Nat) (M : Nat → Nat → Nat) (Y : Nat → Nat) : Prop where
 fkd : (d.kd : Int) = kd
 fop : (d.op : Int) = op
 fkey : d.key = key
 fsq : (d.sq : Int) = sq
 fcl : (d.cl : Int) = cl
 fdg : d.dg = dg
 fn : nX d.X = n
 fm : d.ys.length = m
 fN : ∀ i, i < n → N i = NX d.X i
 fM : ∀ i, i < n → ∀ j, j < N i → M i j = MZ d.X i j
 fY : ∀ i, i < m → Y i = Yt d.ys i
theorem msame_yes {w : World} {a1 a2 : Option Addr} {n c1 c2 : Nat} {N : Nat → Nat} {M : Nat → Nat → Nat} (hn : n < 4611686018427387904) (hN : ∀ i, i < n → N i < 4611686018427387904) (h1 : MtA w a1 n N M) (h2 : MtA w a2 n N M) :
  Calls Try.prog 25 #[.slice a1 n c1, .slice a2 n c2] w fun e w' => e = .returned (.bool true) ∧ Below w.heap.size w w' := by
 obtain ⟨S1, g1, o1, b1, t1, e1, f1⟩ := h1
 obtain ⟨S2, g2, o2, b2, t2, e2, f2⟩ := h2
 exact rmsame_yes a1 a2 n c1 c2 S1 S2 g1 o1 g2 o2 b1 b2 t1 t2 N M w hn hN e1 e2 f1 f2
theorem ysame_yes {w : World} {a1 a2 : Option Addr} {m c1 c2 : Nat} {Y : Nat → Nat} (hm : m < 9223372036854775808) (h1 : YsA w a1 m Y) (h2 : YsA w a2 m Y) :
  Calls Try.prog 26 #[.slice a1 m c1, .slice a2 m c2] w fun e w' => e = .returned (.bool true) ∧ Below w.heap.size w w' := by
 obtain ⟨g1, o1, b1, t1, e1⟩ := h1
 obtain ⟨g2, o2, b2, t2, e2⟩ := h2
 exact rsame_yes m c1 c2 a1 a2 Y g1 o1 g2 o2 b1 b2 t1 t2 w hm e1 e2
/-- Two that are told of the same bytes are the same. -/
theorem dsame_any (d : RD) (a1 : Option Addr) (c1 : Nat) (a2 : Option Addr) (c2 : Nat) (q1 : Option Addr) (f1 : Nat) (q2 : Option Addr) (f2 : Nat) (w : World) (hm : d.ys.length < 9223372036854775808) (h1 : InM w d a1 a2) (h2 : InM w d q1 q2) :
  Calls Try.prog 9 #[.agg (msC (d.kd : Nat) (d.op : Nat) d.key (d.sq : Nat) (d.cl : Nat) d.dg a1 (nX d.X) c1 a2 d.ys.length c2), .agg (msC (d.kd : Nat) (d.op : Nat) d.key (d.sq : Nat) (d.cl : Nat) d.dg q1 (nX d.X) f1 q2 d.ys.length f2)] w fun e w' => e = .returned (.bool true) ∧ Below w.heap.size w w' :=
 rSame_yes (d.kd : Nat) (d.op : Nat) d.key (d.sq : Nat) (d.cl : Nat) d.dg a1 (nX d.X) c1 a2 d.ys.length c2 q1 f1 q2 f2 w
  (fun w' hb => msame_yes (by have := nX_le d.X; omega) (fun i _ => by have := kX_le d.X; show kX d.X < _; omega) (h1.1.below hb) (h2.1.below hb))
  (fun w' hb => ysame_yes hm (h1.2.below hb) (h2.2.below hb))
end Go.Proofs.Ytojobffihlmfgaa
