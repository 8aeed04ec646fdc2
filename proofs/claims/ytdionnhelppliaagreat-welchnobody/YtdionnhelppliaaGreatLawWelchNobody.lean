/- WelchNobody: for every list of shares: without a group nothing is told, and nothing fails; equations that are too many, or too long, are refused; no condition. -/
import Derived.Test.YtdionnhelppliaaGreatWeAwake
import Derived.Test.YtdionnhelppliaaGreatGU
set_option maxRecDepth 100000
set_option maxHeartbeats 2000000
namespace Go.Proofs.YtdionnhelppliaaGreat
open Go.ChangeShapes Go.WideShapes Go.ChangeAt Go.RowKit
namespace welchNobodyP
set_option linter.unusedVariables false
set_option linter.unusedSectionVars false
set_option linter.unusedSimpArgs false
theorem sl_grp : Tryz.prog.underlying 66 = some (.slice (Tryz.prog.elem 66)) := by kernel_rfl
theorem info_pgx : (Tryz.prog.info? 25).map (fun i => (i.zero, i.size)) = some (some (.pointer none), 1) := by kernel_rfl
theorem info_pg : ∃ i, Tryz.prog.info? 25 = some i ∧ i.zero = some (.pointer none) ∧ i.size = 1 := by
 cases hi : Tryz.prog.info? 25 with
 | none => have := info_pgx; rw [hi] at this; cases this
 | some i =>
  have h := info_pgx
  rw [hi] at h
  simp only [Option.map_some, Option.some.injEq, Prod.mk.injEq] at h
  exact ⟨i, rfl, h.1, h.2⟩
theorem lit_pg (v : Option Addr) (k : Nat) (hk : k = 1) : Instr.fill (fun i => some (i * k, k)) ((Array.range (2 * k)).map ((Value.pointer none).cells[· % (Value.pointer none).cells.size]!)) [(0, .pointer none), (1, .pointer v)] = some #[.pointer none, .pointer v] := by
 subst hk
 kernel_rfl
/-- The one of the two. -/
def vOf (g : Nat) (i : Nat) : Option Addr := if i = 0 then none else some ⟨g, 0, none⟩
theorem v_at (g i : Nat) (hi : i < 2) : (#[.pointer none, .pointer (some ⟨g, 0, none⟩)] : Array Value)[0 + i * 1]? = some (.pointer (vOf g i)) := by
 match i, hi with
 | 0, _ => rfl
 | 1, _ => rfl
theorem v_no {w : World} {g : Nat} (i : Nat) (h : Row w g (gpC 0 0 0 none none) 65) : NoG w (vOf g i) := by
 unfold vOf
 split
 ·exact .inl ⟨rfl, rfl, rfl, rfl, rfl, rfl⟩
 ·exact .inr ⟨g, rfl, h⟩
theorem lit_s1 (a : Option Addr) (n c k : Nat) (hk : k = 1) : Instr.fill (fun i => some (i * k, k)) ((Array.range (1 * k)).map ((Value.slice none 0 0).cells[· % (Value.slice none 0 0).cells.size]!)) [(0, .slice a n c)] = some #[.slice a n c] := by
 subst hk
 kernel_rfl
theorem one_s (a : Option Addr) : (#[Value.slice a 1 1] : Array Value).all (·.oneCell') = true := by simp [Value.oneCell']
theorem ownE_congr {k : Nat} {e : TypeId} {w : World} {bs : Nat} {v : Value} {n : Nat} {C D : Nat → Array Value} (h : OwnE k e w bs v n C) (he : ∀ i, i < n → C i = D i) : OwnE k e w bs v n D := by
 unfold OwnE
 rw [← esC_congr he]
 exact h
theorem exec_loadk {P : Program} {o : Oper} {ρ : Operand → Value} (ty : TypeId) (x : Operand) (ho : o.op = .load ty x) (g k : Nat) (hx : ρ x = .pointer (some ⟨g, k, none⟩)) {t : TypeId} {cs : Array Value} (w : World) (hg : RowR w g cs t) (v : Value) (hc : cs[k]? = some v) (ha : ∀ w, (isAgg ty).run P w = .ok false w) : (execOp ρ o).run P w = .ok (.value v) w := by
 unfold execOp
 simp only [ho, hx, Instr.loadAt, Instr.sureAddr, Sem.run_bind, Sem.run_pure, Result.andThen_ok, run_load_cell w g k ty v ha ((hg.cell k).trans hc)]
theorem opw_lit {P : Program} {o : Oper} {a : Act} {w : World} {K : Act → World → Prop} {Q : Exit → Act → World → Prop} (t e : TypeId) (len : Nat) (parts : Array (Nat × Operand)) (ho : o.op = .buildSlice t len parts) (cells : Array Value) (ie : TypeInfo) (z : Value)
  (hu : P.underlying t = some (.slice e)) (hie : P.info? e = some ie) (hz : ie.zero = some z) (hsmall : ¬ len * ie.size > 2 ^ 24) (hpos : ¬ len * ie.size = 0)
  (vals : List (Nat × Value)) (hv : parts.toList.map (fun x => (x.1, a.eval x.2)) = vals)
  (hf : Instr.fill (fun i => some (i * ie.size, ie.size)) ((Array.range (len * ie.size)).map (z.cells[· % z.cells.size]!)) vals = some cells)
  (h : ∀ g w', Below w.heap.size w w' → K (a.put o.dst (.slice (some ⟨g, 0, none⟩) len len)) w') : OpW P o a w K Q := by
 have hf' : Instr.fill (fun i => some (i * ie.size, ie.size)) ((Array.range (len * ie.size)).map (z.cells[· % z.cells.size]!)) (parts.map fun (i, x) => (i, a.eval x)).toList = some cells := by
  rw [Array.toList_map]; rw [← hv] at hf; exact hf
 have hr : (execOp a.eval o).run P w = .ok (.value (.slice (some ⟨w.heap.size, 0, none⟩) len len)) (w.alloc (.cells cells e)) := by
  unfold execOp
  simp only [ho, Sem.run_bind, run_buildSlice w t e len _ cells ie z hu hie hz hsmall hpos hf', Result.andThen_ok]
  rfl
 exact ⟨by unfold Oper.wp; rw [hr]; exact h _ _ (below_alloc _)⟩
set_option maxHeartbeats 4000000 in
theorem region8_any (i gT : Nat) (vv : Option Addr) (ie is' : TypeInfo) {x0 x1 x2 x5 x6 x7 x8 x9 x10 x11 x12 x13 x14 x15 x16 x17 x18 x19 x20 x21 x22 x23 x24 x25 x26 x27 x28 x29 x30 x31 x32 x33 x34 x35 x36 x37 x38 x39 x40 x41 x42 x43 x44 x45 x46 x47 x48 x49 x50 x51 x52 x53 x54 x55 x56 x57 x58 x59 x60 x61 x62 x63 x64 x65 x66 x67 x68 x69 x70 x71 x72 x73 x74 x75 x76 x77 x78 x79 x80 x81 x82 x83 x84 x85 x86 x87 x88 x89 x90 x91 x92 x93 x94 x95 x96 x97 x98 x99 x100 x101 x102 x103 x104 x105 x106 x107 x108 x109 x110 x111 x112 x113 x114 x115 x116 x117 x118 x119 x120 x121 x122 x123 x124 x125 x126 x127 : Value} {W : World} {R : Exit → Act → World → Prop} {cT : Array Value} {tT : TypeId} (hlt : i < 2)
  (hie : Tryz.prog.info? 45 = some ie) (hze : ie.zero = some (.agg #[.int .u64 0, .int .u64 0, .int .u64 0, .int .u64 0])) (hn1 : ¬ 1 * ie.size > 2 ^ 24) (hn2 : ¬ 1 * ie.size = 0) (hl1 : Instr.fill (fun i => some (i * ie.size, ie.size)) ((Array.range (1 * ie.size)).map ((Value.agg #[.int .u64 0, .int .u64 0, .int .u64 0, .int .u64 0]).cells[· % (Value.agg #[.int .u64 0, .int .u64 0, .int .u64 0, .int .u64 0]).cells.size]!)) [(0, .agg (natC 1))] = some (natC 1))
  (his : Tryz.prog.info? 23 = some is') (hzs : is'.zero = some (.slice none 0 0)) (hs1 : ¬ 1 * is'.size > 2 ^ 24) (hs2 : ¬ 1 * is'.size = 0) (hls : ∀ a, Instr.fill (fun i => some (i * is'.size, is'.size)) ((Array.range (1 * is'.size)).map ((Value.slice none 0 0).cells[· % (Value.slice none 0 0).cells.size]!)) [(0, .slice a 1 1)] = some #[.slice a 1 1])
  (hof : ∀ w', Below W.heap.size W w' → Calls Tryz.prog 20 #[.int .i64 1] w' (Rt (.agg (natC 1)) w'))
  (hso : ∀ w' va vb, Below W.heap.size W w' → Calls Tryz.prog 8 #[.pointer vv, va, vb] w' (Rt (.tuple #[.slice none 0 0, .int .i64 1]) w'))
  (hrT : ∀ w', Below W.heap.size W w' → RowR w' gT cT tT) (hv : cT[0 + i * 1]? = some (.pointer vv))
  (hend : ∀ U50 U51 U53 w', Below W.heap.size W w' → R .normal { tmps := #[x0, x1, x2, .slice (some ⟨gT, 0, none⟩) 2 2, .int .i64 (i : Nat), x5, x6, x7, .slice none 0 0, .int .i64 1, x10, x11, x12, x13, x14, x15, x16, x17, x18, x19, x20, x21, x22, x23, x24, x25, x26, x27, x28, x29, x30, x31, x32, x33, x34, x35, x36, x37, x38, x39, x40, x41, x42, x43, .tuple #[.slice none 0 0, .int .i64 1], .slice (some ⟨gT, 0, none⟩) 2 2, .int .i64 (i : Nat), .pointer (some ⟨gT, 0 + i * 1, none⟩), .pointer vv, .agg (natC 1), U50, U51, .agg (natC 1), U53, .tuple #[.slice none 0 0, .int .i64 1], .slice none 0 0, .int .i64 1, x57, x58, x59, x60, x61, x62, x63, x64, x65, x66, x67, x68, x69, x70, x71, x72, x73, x74, x75, x76, x77, x78, x79, x80, x81, x82, x83, x84, x85, x86, x87, x88, x89, x90, x91, x92, x93, x94, x95, x96, x97, x98, x99, x100, x101, x102, x103, x104, x105, x106, x107, x108, x109, x110, x111, x112, x113, x114, x115, x116, x117, x118, x119, x120, x121, x122, x123, x124, x125, x126, x127], defers := [] } w') :
  (Code.region 8 (List.toArray [{ dst := some 45, op := Op.move (Operand.tmp 3), type := 66, pos := "law.go:120", after := #[], guard := none }, { dst := some 46, op := Op.move (Operand.tmp 4), type := 3, pos := "law.go:120", after := #[], guard := none }, { dst := some 47, op := Op.indexAddr 66 (Operand.tmp 45) (Operand.tmp 46), type := 0, pos := "law.go:120", after := #[{ on := 0, ground := Ground.data }, { on := 1, ground := Ground.data }], guard := none }, { dst := some 48, op := Op.load 25 (Operand.tmp 47), type := 25, pos := "law.go:120", after := #[{ on := 2, ground := Ground.data }], guard := none }, { dst := some 49, op := Op.call { callee := Callee.value (Operand.func 20), args := #[Operand.const (Value.int IntKind.i64 1)], argTypes := #[3] }, type := 45, pos := "law.go:120", after := #[], guard := none }, { dst := some 50, op := Op.buildSlice 23 1 #[(0, Operand.tmp 49)], type := 23, pos := "law.go:120", after := #[{ on := 4, ground := Ground.data }], guard := none }, { dst := some 51, op := Op.buildSlice 22 1 #[(0, Operand.tmp 50)], type := 22, pos := "law.go:120", after := #[{ on := 5, ground := Ground.data }], guard := none }, { dst := some 52, op := Op.call { callee := Callee.value (Operand.func 20), args := #[Operand.const (Value.int IntKind.i64 1)], argTypes := #[3] }, type := 45, pos := "law.go:120", after := #[{ on := 4, ground := Ground.chain }], guard := none }, { dst := some 53, op := Op.buildSlice 23 1 #[(0, Operand.tmp 52)], type := 23, pos := "law.go:120", after := #[{ on := 7, ground := Ground.data }], guard := none }, { dst := some 54, op := Op.call { callee := Callee.value (Operand.func 8), args := #[Operand.tmp 48, Operand.tmp 51, Operand.tmp 53], argTypes := #[25, 22, 23] }, type := 29, pos := "law.go:120", after := #[{ on := 3, ground := Ground.data }, { on := 6, ground := Ground.data }, { on := 8, ground := Ground.data }, { on := 7, ground := Ground.chain }], guard := none }, { dst := some 44, op := Op.move (Operand.tmp 54), type := 29, pos := "law.go:120", after := #[{ on := 9, ground := Ground.data }], guard := none }, { dst := some 55, op := Op.extract (Operand.tmp 44) 0, type := 23, pos := "law.go:120", after := #[{ on := 10, ground := Ground.data }], guard := none }, { dst := some 56, op := Op.extract (Operand.tmp 44) 1, type := 28, pos := "law.go:120", after := #[{ on := 10, ground := Ground.data }, { on := 13, ground := Ground.gcOnly Departure.lateStores }], guard := none }, { dst := some 8, op := Op.assign (Operand.tmp 55), type := 23, pos := "law.go:120", after := #[{ on := 11, ground := Ground.data }, { on := 9, ground := Ground.chain }, { on := 0, ground := Ground.phase }, { on := 1, ground := Ground.phase }, { on := 2, ground := Ground.phase }, { on := 3, ground := Ground.phase }, { on := 4, ground := Ground.phase }, { on := 5, ground := Ground.phase }, { on := 6, ground := Ground.phase }, { on := 7, ground := Ground.phase }, { on := 8, ground := Ground.phase }, { on := 9, ground := Ground.phase }, { on := 10, ground := Ground.phase }, { on := 11, ground := Ground.phase }, { on := 12, ground := Ground.textOnly Departure.lateStores }], guard := none }, { dst := some 9, op := Op.assign (Operand.tmp 56), type := 28, pos := "law.go:120", after := #[{ on := 12, ground := Ground.data }, { on := 13, ground := Ground.chain }, { on := 0, ground := Ground.phase }, { on := 1, ground := Ground.phase }, { on := 2, ground := Ground.phase }, { on := 3, ground := Ground.phase }, { on := 4, ground := Ground.phase }, { on := 5, ground := Ground.phase }, { on := 6, ground := Ground.phase }, { on := 7, ground := Ground.phase }, { on := 8, ground := Ground.phase }, { on := 9, ground := Ground.phase }, { on := 10, ground := Ground.phase }, { on := 11, ground := Ground.phase }, { on := 12, ground := Ground.phase }, { on := 13, ground := Ground.phase }], guard := none }]) true).wp Tryz.prog R { tmps := #[x0, x1, x2, .slice (some ⟨gT, 0, none⟩) 2 2, .int .i64 (i : Nat), x5, x6, x7, x8, x9, x10, x11, x12, x13, x14, x15, x16, x17, x18, x19, x20, x21, x22, x23, x24, x25, x26, x27, x28, x29, x30, x31, x32, x33, x34, x35, x36, x37, x38, x39, x40, x41, x42, x43, x44, x45, x46, x47, x48, x49, x50, x51, x52, x53, x54, x55, x56, x57, x58, x59, x60, x61, x62, x63, x64, x65, x66, x67, x68, x69, x70, x71, x72, x73, x74, x75, x76, x77, x78, x79, x80, x81, x82, x83, x84, x85, x86, x87, x88, x89, x90, x91, x92, x93, x94, x95, x96, x97, x98, x99, x100, x101, x102, x103, x104, x105, x106, x107, x108, x109, x110, x111, x112, x113, x114, x115, x116, x117, x118, x119, x120, x121, x122, x123, x124, x125, x126, x127], defers := [] } W := by
 refine wp_region_inv0 (by kernel_rfl) (fun d a' w' => ∃ U45 U46 U47 U48 U49 U50 U51 U52 U53 U54 U44 U55 U56 U8 U9 : Value, a' = { tmps := #[x0, x1, x2, .slice (some ⟨gT, 0, none⟩) 2 2, .int .i64 (i : Nat), x5, x6, x7, U8, U9, x10, x11, x12, x13, x14, x15, x16, x17, x18, x19, x20, x21, x22, x23, x24, x25, x26, x27, x28, x29, x30, x31, x32, x33, x34, x35, x36, x37, x38, x39, x40, x41, x42, x43, U44, U45, U46, U47, U48, U49, U50, U51, U52, U53, U54, U55, U56, x57, x58, x59, x60, x61, x62, x63, x64, x65, x66, x67, x68, x69, x70, x71, x72, x73, x74, x75, x76, x77, x78, x79, x80, x81, x82, x83, x84, x85, x86, x87, x88, x89, x90, x91, x92, x93, x94, x95, x96, x97, x98, x99, x100, x101, x102, x103, x104, x105, x106, x107, x108, x109, x110, x111, x112, x113, x114, x115, x116, x117, x118, x119, x120, x121, x122, x123, x124, x125, x126, x127], defers := [] } ∧ (d 0 = true → U45 = .slice (some ⟨gT, 0, none⟩) 2 2) ∧ (d 1 = true → U46 = .int .i64 (i : Nat)) ∧ (d 2 = true → U47 = .pointer (some ⟨gT, 0 + i * 1, none⟩)) ∧ (d 3 = true → U48 = .pointer vv) ∧ (d 4 = true → U49 = .agg (natC 1)) ∧ (d 5 = true → ∃ gx, U50 = .slice (some ⟨gx, 0, none⟩) 1 1) ∧ (d 6 = true → ∃ gx, U51 = .slice (some ⟨gx, 0, none⟩) 1 1) ∧ (d 7 = true → U52 = .agg (natC 1)) ∧ (d 8 = true → ∃ gx, U53 = .slice (some ⟨gx, 0, none⟩) 1 1) ∧ (d 9 = true → U54 = .tuple #[.slice none 0 0, .int .i64 1]) ∧ (d 10 = true → U44 = .tuple #[.slice none 0 0, .int .i64 1]) ∧ (d 11 = true → U55 = .slice none 0 0) ∧ (d 12 = true → U56 = .int .i64 1) ∧ (d 13 = true → U8 = .slice none 0 0) ∧ (d 14 = true → U9 = .int .i64 1) ∧ Below W.heap.size W w') (by kernel_rfl) ?start ?step ?fin
 case start => exact ⟨x45, x46, x47, x48, x49, x50, x51, x52, x53, x54, x44, x55, x56, x8, x9, rfl, nofun, nofun, nofun, nofun, nofun, nofun, nofun, nofun, nofun, nofun, nofun, nofun, nofun, nofun, nofun, (Below.refl _ _).drew⟩
 case step =>
  intro k o ho d a' w1 hI hd hpre
  obtain ⟨U45, U46, U47, U48, U49, U50, U51, U52, U53, U54, U44, U55, U56, U8, U9, rfl, q0, q1, q2, q3, q4, q5, q6, q7, q8, q9, q10, q11, q12, q13, q14, sb⟩ := hI
  match k, ho with
  | 0, ho =>
   have ho' := Option.some.inj ho
   subst ho'
   refine opw_value (.slice (some ⟨gT, 0, none⟩) 2 2) (rfl) ?_
   exact ⟨_, U46, U47, U48, U49, U50, U51, U52, U53, U54, U44, U55, U56, U8, U9, rfl, fun _ => rfl, q1, q2, q3, q4, q5, q6, q7, q8, q9, q10, q11, q12, q13, q14, sb⟩
  | 1, ho =>
   have ho' := Option.some.inj ho
   subst ho'
   refine opw_value (.int .i64 (i : Nat)) (rfl) ?_
   exact ⟨U45, _, U47, U48, U49, U50, U51, U52, U53, U54, U44, U55, U56, U8, U9, rfl, q0, fun _ => rfl, q2, q3, q4, q5, q6, q7, q8, q9, q10, q11, q12, q13, q14, sb⟩
  | 2, ho =>
   have ho' := Option.some.inj ho
   subst ho'
   obtain rfl : U45 = .slice (some ⟨gT, 0, none⟩) 2 2 := q0 (hpre ⟨0, .data⟩ (by simp) rfl)
   obtain rfl : U46 = .int .i64 (i : Nat) := q1 (hpre ⟨1, .data⟩ (by simp) rfl)
   refine opw_value (.pointer (some ⟨gT, 0 + i * 1, none⟩)) (exec_index_s 66 _ _ rfl gT 0 2 2 rfl i rfl hlt _ Tryz.underlying66 1 Tryz.sizeOf25 w1) ?_
   exact ⟨_, _, _, U48, U49, U50, U51, U52, U53, U54, U44, U55, U56, U8, U9, rfl, fun _ => rfl, fun _ => rfl, fun _ => rfl, q3, q4, q5, q6, q7, q8, q9, q10, q11, q12, q13, q14, sb⟩
  | 3, ho =>
   have ho' := Option.some.inj ho
   subst ho'
   obtain rfl : U47 = .pointer (some ⟨gT, 0 + i * 1, none⟩) := q2 (hpre ⟨2, .data⟩ (by simp) rfl)
   refine opw_value (.pointer vv) (exec_loadk 25 _ rfl gT (0 + i * 1) rfl w1 (hrT w1 sb) _ hv Tryz.isAgg25) ?_
   exact ⟨U45, U46, _, _, U49, U50, U51, U52, U53, U54, U44, U55, U56, U8, U9, rfl, q0, q1, fun _ => rfl, fun _ => rfl, q4, q5, q6, q7, q8, q9, q10, q11, q12, q13, q14, sb⟩
  | 4, ho =>
   have ho' := Option.some.inj ho
   subst ho'
   refine opw_call 20 _ _ rfl Tryz.func20 (by kernel_rfl) #[.int .i64 1] rfl ((hof w1 sb).mono ?_)
   rintro e w2 ⟨rfl, hb⟩
   exact ⟨_, rfl, ⟨U45, U46, U47, U48, _, U50, U51, U52, U53, U54, U44, U55, U56, U8, U9, rfl, q0, q1, q2, q3, fun _ => rfl, q5, q6, q7, q8, q9, q10, q11, q12, q13, q14, below_on sb (Nat.le_refl _) hb⟩⟩
  | 5, ho =>
   have ho' := Option.some.inj ho
   subst ho'
   obtain rfl : U49 = .agg (natC 1) := q4 (hpre ⟨4, .data⟩ (by simp) rfl)
   refine opw_lit 23 45 1 _ rfl (natC 1) ie _ Tryz.underlying23 hie hze hn1 hn2 [(0, .agg (natC 1))] rfl hl1 ?_;intro gx w2 hb
   exact ⟨U45, U46, U47, U48, _, _, U51, U52, U53, U54, U44, U55, U56, U8, U9, rfl, q0, q1, q2, q3, fun _ => rfl, fun _ => ⟨_, rfl⟩, q6, q7, q8, q9, q10, q11, q12, q13, q14, below_on sb (Nat.le_refl _) hb⟩
  | 6, ho =>
   have ho' := Option.some.inj ho
   subst ho'
   obtain ⟨y50, rfl⟩ := q5 (hpre ⟨5, .data⟩ (by simp) rfl)
   refine opw_lit 22 23 1 _ rfl (#[.slice (some ⟨y50, 0, none⟩) 1 1]) is' _ Tryz.underlying22 his hzs hs1 hs2 [(0, .slice (some ⟨y50, 0, none⟩) 1 1)] rfl (hls _) ?_;intro gx w2 hb
   exact ⟨U45, U46, U47, U48, U49, _, _, U52, U53, U54, U44, U55, U56, U8, U9, rfl, q0, q1, q2, q3, q4, fun _ => ⟨_, rfl⟩, fun _ => ⟨_, rfl⟩, q7, q8, q9, q10, q11, q12, q13, q14, below_on sb (Nat.le_refl _) hb⟩
  | 7, ho =>
   have ho' := Option.some.inj ho
   subst ho'
   refine opw_call 20 _ _ rfl Tryz.func20 (by kernel_rfl) #[.int .i64 1] rfl ((hof w1 sb).mono ?_)
   rintro e w2 ⟨rfl, hb⟩
   exact ⟨_, rfl, ⟨U45, U46, U47, U48, U49, U50, U51, _, U53, U54, U44, U55, U56, U8, U9, rfl, q0, q1, q2, q3, q4, q5, q6, fun _ => rfl, q8, q9, q10, q11, q12, q13, q14, below_on sb (Nat.le_refl _) hb⟩⟩
  | 8, ho =>
   have ho' := Option.some.inj ho
   subst ho'
   obtain rfl : U52 = .agg (natC 1) := q7 (hpre ⟨7, .data⟩ (by simp) rfl)
   refine opw_lit 23 45 1 _ rfl (natC 1) ie _ Tryz.underlying23 hie hze hn1 hn2 [(0, .agg (natC 1))] rfl hl1 ?_;intro gx w2 hb
   exact ⟨U45, U46, U47, U48, U49, U50, U51, _, _, U54, U44, U55, U56, U8, U9, rfl, q0, q1, q2, q3, q4, q5, q6, fun _ => rfl, fun _ => ⟨_, rfl⟩, q9, q10, q11, q12, q13, q14, below_on sb (Nat.le_refl _) hb⟩
  | 9, ho =>
   have ho' := Option.some.inj ho
   subst ho'
   obtain rfl : U48 = .pointer vv := q3 (hpre ⟨3, .data⟩ (by simp) rfl)
   refine opw_call 8 _ _ rfl Tryz.func8 (by kernel_rfl) #[.pointer vv, U51, U53] rfl ((hso w1 U51 U53 sb).mono ?_)
   rintro e w2 ⟨rfl, hb⟩
   exact ⟨_, rfl, ⟨U45, U46, U47, _, U49, U50, U51, U52, U53, _, U44, U55, U56, U8, U9, rfl, q0, q1, q2, fun _ => rfl, q4, q5, q6, q7, q8, fun _ => rfl, q10, q11, q12, q13, q14, below_on sb (Nat.le_refl _) hb⟩⟩
  | 10, ho =>
   have ho' := Option.some.inj ho
   subst ho'
   obtain rfl : U54 = .tuple #[.slice none 0 0, .int .i64 1] := q9 (hpre ⟨9, .data⟩ (by simp) rfl)
   refine opw_value (.tuple #[.slice none 0 0, .int .i64 1]) (rfl) ?_
   exact ⟨U45, U46, U47, U48, U49, U50, U51, U52, U53, _, _, U55, U56, U8, U9, rfl, q0, q1, q2, q3, q4, q5, q6, q7, q8, fun _ => rfl, fun _ => rfl, q11, q12, q13, q14, sb⟩
  | 11, ho =>
   have ho' := Option.some.inj ho
   subst ho'
   obtain rfl : U44 = .tuple #[.slice none 0 0, .int .i64 1] := q10 (hpre ⟨10, .data⟩ (by simp) rfl)
   refine opw_value (.slice none 0 0) (rfl) ?_
   exact ⟨U45, U46, U47, U48, U49, U50, U51, U52, U53, U54, _, _, U56, U8, U9, rfl, q0, q1, q2, q3, q4, q5, q6, q7, q8, q9, fun _ => rfl, fun _ => rfl, q12, q13, q14, sb⟩
  | 12, ho =>
   have ho' := Option.some.inj ho
   subst ho'
   obtain rfl : U44 = .tuple #[.slice none 0 0, .int .i64 1] := q10 (hpre ⟨10, .data⟩ (by simp) rfl)
   refine opw_value (.int .i64 1) (rfl) ?_
   exact ⟨U45, U46, U47, U48, U49, U50, U51, U52, U53, U54, _, U55, _, U8, U9, rfl, q0, q1, q2, q3, q4, q5, q6, q7, q8, q9, fun _ => rfl, q11, fun _ => rfl, q13, q14, sb⟩
  | 13, ho =>
   have ho' := Option.some.inj ho
   subst ho'
   obtain rfl : U55 = .slice none 0 0 := q11 (hpre ⟨11, .data⟩ (by simp) rfl)
   refine opw_value (.slice none 0 0) (rfl) ?_
   exact ⟨U45, U46, U47, U48, U49, U50, U51, U52, U53, U54, U44, _, U56, _, U9, rfl, q0, q1, q2, q3, q4, q5, q6, q7, q8, q9, q10, fun _ => rfl, q12, fun _ => rfl, q14, sb⟩
  | 14, ho =>
   have ho' := Option.some.inj ho
   subst ho'
   obtain rfl : U56 = .int .i64 1 := q12 (hpre ⟨12, .data⟩ (by simp) rfl)
   refine opw_value (.int .i64 1) (rfl) ?_
   exact ⟨U45, U46, U47, U48, U49, U50, U51, U52, U53, U54, U44, U55, _, U8, _, rfl, q0, q1, q2, q3, q4, q5, q6, q7, q8, q9, q10, q11, fun _ => rfl, q13, fun _ => rfl, sb⟩
 case fin =>
  intro d a' w1 hI hd
  obtain ⟨U45, U46, U47, U48, U49, U50, U51, U52, U53, U54, U44, U55, U56, U8, U9, rfl, q0, q1, q2, q3, q4, q5, q6, q7, q8, q9, q10, q11, q12, q13, q14, sb⟩ := hI
  obtain rfl : U45 = .slice (some ⟨gT, 0, none⟩) 2 2 := q0 (hd 0 (by decide))
  obtain rfl : U46 = .int .i64 (i : Nat) := q1 (hd 1 (by decide))
  obtain rfl : U47 = .pointer (some ⟨gT, 0 + i * 1, none⟩) := q2 (hd 2 (by decide))
  obtain rfl : U48 = .pointer vv := q3 (hd 3 (by decide))
  obtain rfl : U49 = .agg (natC 1) := q4 (hd 4 (by decide))
  obtain rfl : U52 = .agg (natC 1) := q7 (hd 7 (by decide))
  obtain rfl : U54 = .tuple #[.slice none 0 0, .int .i64 1] := q9 (hd 9 (by decide))
  obtain rfl : U44 = .tuple #[.slice none 0 0, .int .i64 1] := q10 (hd 10 (by decide))
  obtain rfl : U55 = .slice none 0 0 := q11 (hd 11 (by decide))
  obtain rfl : U56 = .int .i64 1 := q12 (hd 12 (by decide))
  obtain rfl : U8 = .slice none 0 0 := q13 (hd 13 (by decide))
  obtain rfl : U9 = .int .i64 1 := q14 (hd 14 (by decide))
  exact hend U50 U51 U53 w1 sb
theorem core0 (n c : Nat) (ab : Option Addr) (w : World) (h : 8 < n) :
  Calls Tryz.prog 5 #[.slice ab n c] w fun e w' => e = .returned (.bool true) ∧ Below w.heap.size w w' := by
 have haw := awake15_any
 go_enter Tryz.func5, Tryz.ntmps5
 have sb := sbmk w
 repeat ((fail_if_success with_reducible apply rg); go_step)
 refine rp ?_;refine p_v (.bool false) (fun _ => rfl) (pw_nil ?_);simp only [pv]
 repeat ((fail_if_success with_reducible apply rg); go_step)
 refine rp ?_;refine p_m ?_;simp only [pv];refine p_v (.int .i64 n) (n_l ab n c sl_shs) ?_;refine p_v (.bool true) (gt_t n 8) (pw_nil ?_);simp only [pv]
 repeat ((fail_if_success with_reducible apply rg); go_step)
 refine rp ?_;refine p_c 6 Tryz.func6 #[] (haw _) ?_;intro z2000 k;simp only [pv];replace sb := kk sb k;clear k;refine p_a (pw_nil ?_);simp only [pv]
 go_wp2
 go_ret
 exact ⟨rfl, sb⟩
set_option maxHeartbeats 4000000 in
theorem core1 (n c : Nat) (ab : Option Addr) (w : World) (hn : n ≤ 8) :
  Calls Tryz.prog 5 #[.slice ab n c] w fun e w' => e = .returned (.bool true) ∧ Below w.heap.size w w' := by
 have haw := awake15_any
 obtain ⟨ip, hip, hzp, hsz0⟩ := info_pg
 obtain ⟨ie, hie, hze, hsz, hby⟩ := info_nat'
 obtain ⟨is', his, hzs, hszs, hbys⟩ := info_sly
 have hp1 : ¬ 2 * ip.size > 2 ^ 24 := by rw [hsz0]; decide
 have hp2 : ¬ 2 * ip.size = 0 := by rw [hsz0]; decide
 have hn1 : ¬ 1 * ie.size > 2 ^ 24 := by rw [hsz]; decide
 have hn2 : ¬ 1 * ie.size = 0 := by rw [hsz]; decide
 have hs1 : ¬ 1 * is'.size > 2 ^ 24 := by rw [hszs]; decide
 have hs2 : ¬ 1 * is'.size = 0 := by rw [hszs]; decide
 have hl := fun v => lit_pg v ip.size hsz0
 have hl1 := fun A => lit_one A ie.size hsz
 have hls := fun a => lit_s1 a 1 1 is'.size hszs
 have hl17 := fun a => lit_s1 a 17 17 is'.size hszs
 have hsm := fun w' => sml15_any 0 w'
 rw [sm_0.1] at hsm
 have hde : ∀ {v : Option Addr} w', NoG w' v → _ := fun {v} w' h1 => dec_nog v (.int .i64 1) ab n c h1
 have hso : ∀ {v : Option Addr} w' va vb, NoG w' v → _ := fun {v} w' va vb h1 => solve_nog v va vb h1
 have hof := fun (i : Nat) w' (hi : i < 1000) => of15_any i w' (by omega)
 have hmany : ∀ w' g gr gf, GrpAt w' g gr gf (smP 0) 1966023127 (smG 0) → ∀ ap cp gM, Calls Tryz.prog 8 #[.pointer (some ⟨g, 0, none⟩), .slice ap 17 cp, .slice (some ⟨gM, 0, none⟩) 17 17] w' fun e w2 => e = .returned (.tuple #[.slice none 0 0, .int .i64 1]) ∧ Below w'.heap.size w' w2 := fun w' g gr gf hg ap cp gM => solve_arg (.slice ap 17 cp) (.slice (some ⟨gM, 0, none⟩) 17 17) hg (fun w2 hb => aeq_few ap (some ⟨gM, 0, none⟩) 17 cp 17 17 w2 (by decide))
 have hcol : ∀ w' g gr gf, GrpAt w' g gr gf (smP 0) 1966023127 (smG 0) → ∀ gE gH gK, Row w' gH #[.slice (some ⟨gE, 0, none⟩) 17 17] 23 → Calls Tryz.prog 8 #[.pointer (some ⟨g, 0, none⟩), .slice (some ⟨gH, 0, none⟩) 1 1, .slice (some ⟨gK, 0, none⟩) 1 1] w' fun e w2 => e = .returned (.tuple #[.slice none 0 0, .int .i64 1]) ∧ Below w'.heap.size w' w2 := fun w' g gr gf hg gE gH gK rH => solve_arg (.slice (some ⟨gH, 0, none⟩) 1 1) (.slice (some ⟨gK, 0, none⟩) 1 1) hg (fun w2 hb => aeq_col (some ⟨gH, 0, none⟩) (some ⟨gK, 0, none⟩) (some ⟨gE, 0, none⟩) 1 1 1 17 17 (fun _ => .slice (some ⟨gE, 0, none⟩) 17 17) gH 0 _ _ w2 (by decide) (by decide) ⟨.inr ⟨rfl, (rH.belowAll hb).r, fun i hi => (show _ = _ from by rw [show i = 0 by omega]; rfl)⟩⟩ rfl (by decide) (by decide))
 have hok : ∀ w' g gr gf, GrpAt w' g gr gf (smP 0) 1966023127 (smG 0) → ∀ ap cp R gM, OwnE 1 23 w' w.heap.size (.slice ap 17 cp) 17 (fun j => #[.slice (some ⟨R j, 0, none⟩) 1 1]) → FamAt w' w.heap.size 1 R (fun j _ => j) 17 → Row w' gM (nsC 16 (fun _ => 0)) 45 → Calls Tryz.prog 8 #[.pointer (some ⟨g, 0, none⟩), .slice ap 16 cp, .slice (some ⟨gM, 0, none⟩) 16 16] w' fun e w2 => ∃ v, e = .returned (.tuple #[v, .int .i64 0]) ∧ Below w'.heap.size w' w2 := fun w' g gr gf hg ap cp R gM hP hF rM => by
  obtain ⟨ap', cp', gp, cur, he, _, hpp⟩ := ownE_els (k := 1) (C := (fun j => #[.slice (some ⟨R j, 0, none⟩) 1 1])) (fun j => rfl) hP
  cases he
  refine (solve_any ap (some ⟨gM, 0, none⟩) 16 cp 16 1 (fun j => .slice (some ⟨R j, 0, none⟩) 1 1) (fun j _ => j) (fun _ => 0) gp 0 cur _ gM 0 _ _ le_fd12 (by decide) (by decide) (by decide) (by decide) ⟨hpp.at'.elim (fun h => absurd h (by decide)) (fun ⟨h1, h2, h3⟩ => .inr ⟨h1, h2, fun i hi => h3 i (by omega) 0 _ rfl⟩)⟩ (fun i hi => ⟨_, _, _, _, _, _, rfl, nats_row (hF.row i (by omega)) (fun _ _ => (show i < 2 ^ 256 by omega))⟩) (nats_row rM (fun _ _ => by decide)) hg).mono ?_
  rintro e w2 ⟨v, z, rfl, hR, hb⟩
  rcases hR with ⟨_, _, hno⟩ | ⟨rfl, _⟩
  ·exact absurd ⟨fun _ => 0, fun i hi => by
    show (0 : Fin 1966023127) + _ * 0 = fi 0
    rw [fi_zero]
    grind⟩ hno
  ·exact ⟨v, rfl, hb⟩
 have hon := fun (R : Nat → Nat) (j : Nat) => (show (#[Value.slice (some ⟨R j, 0, none⟩) 1 1] : Array Value).size = 1 from rfl)
 clear hsz0
 generalize smP 0 = PP at *
 generalize smG 0 = GG at *
 go_enter Tryz.func5, Tryz.ntmps5
 have sb := sbmk w
 repeat ((fail_if_success with_reducible apply rg); go_step)
 refine rp ?_;refine p_v (.bool false) (fun _ => rfl) (pw_nil ?_);simp only [pv]
 repeat ((fail_if_success with_reducible apply rg); go_step)
 refine rp ?_;refine p_m ?_;simp only [pv];refine p_v (.int .i64 n) (n_l ab n c sl_shs) ?_;refine p_v (.bool false) (gt_f n 8) (pw_nil ?_);simp only [pv]
 repeat ((fail_if_success with_reducible apply rg); go_step)
 refine rp ?_;refine p_v (.agg (gpC 0 0 0 none none)) (exec_build0 _ rfl _ built_gp0) ?_;simp only [pv];refine pw_boxr (by rfl) 65 _ rfl (_) rfl ?_;intro g26 z3001 n0 r26 k;simp only [pv]
 have b26 := Nat.le_trans sb.size n0
 clear n0;replace sb := kk sb k;clear k;refine pw_litr (by rfl) 66 25 2 _ rfl #[.pointer none, .pointer (some ⟨g26, 0, none⟩)] ip _ Tryz.underlying66 hip hzp hp1 hp2 [(0, .pointer none), (1, .pointer (some ⟨g26, 0, none⟩))] rfl (hl _) ?_;intro gT z3002 n0 rT k;simp only [pv]
 have d26xT := l_l r26.lt n0
 have bT := Nat.le_trans sb.size n0
 clear n0;replace r26 := k.ro r26;replace sb := kk sb k;clear k;refine p_a (pw_nil ?_);simp only [pv];clear hl hp1 hp2 hzp hip
 repeat ((fail_if_success with_reducible apply rg); go_step)
 refine rp ?_;refine p_v (.int .i64 0) (fun _ => rfl) (pw_nil ?_);simp only [pv]
 go_wp2_with fail
 go_loopg [4, 5, 6, 7, 8, 9] 2 (fun y s4 s5 s6 s7 s8 s9 wr => ∃ i : Nat, i + y = 2 ∧ s4 = .int .i64 i ∧ Row wr g26 (gpC 0 0 0 none none) 65 ∧ Row wr gT #[.pointer none, .pointer (some ⟨g26, 0, none⟩)] 25 ∧ Below w.heap.size w wr)
 case atStart => exact ⟨0, by omega, rfl, r26, rT, sb⟩
 case round =>
  clear r26 rT sb
  obtain ⟨i, hi, rfl, r26, rT, sb⟩ := hrel
  cases gk with
  | succ y =>
   have hlt : i < 2 := by omega
   have hv : (#[.pointer none, .pointer (some ⟨g26, 0, none⟩)] : Array Value)[0 + i * 1]? = some (.pointer (vOf g26 i)) := v_at g26 i hlt
   repeat ((fail_if_success with_reducible apply rg); go_step)
   refine rp ?_;refine p_m ?_;refine p_m ?_;simp only [pv];refine p_v (.int .i64 2) (n_l (some ⟨gT, 0, none⟩) 2 2 sl_grp) ?_;simp only [pv];refine p_v (.bool true) (lt_t (i : Nat) 2) (pw_nil ?_);simp only [pv]
   repeat ((fail_if_success with_reducible apply rg); go_step)
   refine rp ?_;refine p_m ?_;refine p_m ?_;simp only [pv];refine p_v (.pointer (some ⟨gT, 0 + i * 1, none⟩)) (exec_index_s 66 _ _ rfl gT 0 2 2 rfl i rfl (by omega) _ Tryz.underlying66 1 Tryz.sizeOf25) ?_;simp only [pv];refine p_d (0 + i * 1) rT.r (.pointer (vOf g26 i)) hv Tryz.isAgg25 ?_;refine p_m ?_;simp only [pv];refine p_c 21 Tryz.func21 #[.pointer (vOf g26 i), .int .i64 1, .slice ab n c] (hde _ (v_no i r26)) ?_;intro z7005 k;simp only [pv];replace r26 := k.ro r26;replace rT := k.ro rT;replace sb := kk sb k;clear k;refine p_m ?_;refine p_e ?_;refine p_e ?_;refine p_e ?_;refine p_a ?_;simp only [pv];refine p_a ?_;refine p_a (pw_nil ?_);simp only [pv]
   repeat ((fail_if_success with_reducible apply rg); go_step)
   have hnv := v_no i r26
   refine region8_any i gT (vOf g26 i) ie is' hlt hie hze hn1 hn2 (hl1 1) his hzs hs1 hs2 hls (fun w' hb => hof 1 w' (by decide)) (fun w' va vb hb => hso w' va vb (hnv.below hb)) (fun w' hb => (rT.belowAll hb).r) hv ?_;intro U50 U51 U53 w8 hqb;replace r26 := r26.belowAll hqb;replace rT := rT.belowAll hqb;replace sb := b_o sb hqb;clear hqb hnv
   repeat ((fail_if_success with_reducible apply rg); go_step)
   refine rp ?_;refine p_m ?_;simp only [pv];refine p_v (.int .i64 0) (n_l none 0 0 sl_natsX) ?_;refine p_m ?_;simp only [pv];refine p_v (.int .i64 0) (n_l none 0 0 sl_intsX) ?_;simp only [pv];refine p_v (.int .i64 0) (exec_add_i _ _ _ _ rfl 0 0 rfl rfl) ?_;refine p_m ?_;simp only [pv];refine p_v (.int .i64 0) (n_l none 0 0 sl_natsX) ?_;simp only [pv];refine p_v (.int .i64 0) (exec_add_i _ _ _ _ rfl 0 0 rfl rfl) ?_;simp only [pv];refine p_v (.bool false) (exec_gt_i _ _ _ _ rfl 0 0 rfl rfl false (decide_eq_false (by decide))) ?_;refine p_m ?_;refine p_m ?_;simp only [pv];refine p_v (.bool false) (exec_neq_k .i64 _ _ _ _ rfl 1 1 rfl rfl false rfl) ?_;refine p_k false (.bool false) ?_;refine p_m ?_;refine p_m ?_;simp only [pv];refine p_v (.bool false) (exec_neq_k .i64 _ _ _ _ rfl 1 1 rfl rfl false rfl) ?_;refine p_k false (.bool false) (pw_nil ?_);simp only [pv]
   repeat ((fail_if_success with_reducible apply rg); go_step)
   refine rp ?_;refine p_m ?_;simp only [pv];refine p_v (.int .i64 ((i + 1 : Nat) : Int)) (x_a i 1) ?_;refine p_a (pw_nil ?_);simp only [pv]
   go_wp2
   go_roundg y
   case measure => omega
   case rel => exact ⟨i + 1, by omega, rfl, r26, rT, sb⟩
  | zero =>
   obtain rfl : i = 2 := by omega
   clear hi hde hso
   repeat ((fail_if_success with_reducible apply rg); go_step)
   refine rp ?_;refine p_m ?_;refine p_m ?_;simp only [pv];refine p_v (.int .i64 2) (n_l (some ⟨gT, 0, none⟩) 2 2 sl_grp) ?_;simp only [pv];refine p_v (.bool false) (exec_lt_b _ _ _ _ rfl ((2 : Nat) : Int) 2 rfl rfl false rfl) (pw_nil ?_);simp only [pv];clear r26 rT
   repeat ((fail_if_success with_reducible apply rg); go_step)
   refine rp ?_;refine p_f 7 Tryz.func7 #[.int .i64 0] (hsm _) ?_
   rintro _ z11000 ⟨g, gr, gf, rfl, ⟨rG, rR, rF⟩, hb⟩
   refine ⟨_, rfl, ?_⟩
   simp only [pv]
   have k := Kept.ofBelow hb
   clear hb;replace sb := kk sb k;clear k;refine p_m ?_;refine p_e ?_;refine p_e ?_;refine p_e ?_;refine p_a ?_;simp only [pv];refine p_a ?_;refine p_a (pw_nil ?_);simp only [pv];clear hsm
   repeat ((fail_if_success with_reducible apply rg); go_step)
   refine rp ?_;refine p_v (.slice none 0 0) ((fun _ => rfl)) (pw_nil ?_);simp only [pv]
   repeat ((fail_if_success with_reducible apply rg); go_step)
   refine rp ?_;refine p_v (.int .i64 0) (fun _ => rfl) (pw_nil ?_);simp only [pv]
   go_wp2_with fail
   go_loopg [13, 14] 17 (fun y s13 s14 wr => ∃ (i : Nat) (R : Nat → Nat), i + y = 17 ∧ s14 = .int .i64 i ∧ OwnE 1 23 wr w.heap.size s13 i (fun j => #[.slice (some ⟨R j, 0, none⟩) 1 1]) ∧ FamAt wr w.heap.size 1 R (fun j _ => j) i ∧ s13.ownBlock ≠ some g ∧ s13.ownBlock ≠ some gr ∧ s13.ownBlock ≠ some gf ∧ (∀ j, j < i → s13.ownBlock ≠ some (R j)) ∧ GrpAt wr g gr gf PP 1966023127 GG ∧ Below w.heap.size w wr)
   case atStart => exact ⟨0, fun _ => 0, by omega, rfl, ownE_nil _ _ _ _, fam_nil _ _ _ _ _, nofun, nofun, nofun, nofun, ⟨rG, rR, rF⟩, sb⟩
   case round =>
    clear rG rR rF sb
    obtain ⟨i, R, hi, rfl, hP, hF, ehPxG, ehPxR, ehPxF, ehPxhF, ⟨rG, rR, rF⟩, sb⟩ := hrel
    cases gk with
    | succ y =>
     have hlt : i < 17 := by omega
     have hofi := fun w' => hof i w' (by omega)
     have hli := hl1 i
     repeat ((fail_if_success with_reducible apply rg); go_step)
     refine rp ?_;refine p_m ?_;refine p_v (.bool true) (lt_t i 17) (pw_nil ?_);simp only [pv]
     repeat ((fail_if_success with_reducible apply rg); go_step)
     refine rp ?_;refine p_m ?_;refine p_m ?_;simp only [pv];refine p_c 20 Tryz.func20 #[.int .i64 (i : Nat)] (hofi _) ?_;intro z16002 k;simp only [pv];replace rG := k.ro rG;replace rR := k.ro rR;replace rF := k.ro rF
     replace hP := hP.on k (own_ne0 _)
     replace hF := hF.below k.nil;replace sb := kk sb k;clear k;refine pw_litr (by rfl) 23 45 1 _ rfl (natC i) ie _ Tryz.underlying23 hie hze hn1 hn2 [(0, .agg (natC i))] rfl hli ?_;intro gA z16003 n0 rA k;simp only [pv]
     have dGxA := l_l rG.lt n0
     have dRxA := l_l rR.lt n0
     have dFxA := l_l rF.lt n0
     have ehPxA := hP.new n0
     have hFxA := fun j hj => Nat.ne_of_lt (Nat.lt_of_lt_of_le (hF.lt (j := j) hj) n0)
     have bA := Nat.le_trans sb.size n0
     clear n0;replace rG := k.ro rG;replace rR := k.ro rR;replace rF := k.ro rF
     replace hP := hP.on k (own_ne0 _)
     replace hF := hF.below k.nil;replace sb := kk sb k;clear k;refine pw_litr (by rfl) 22 23 1 _ rfl (#[.slice (some ⟨gA, 0, none⟩) 1 1]) is' _ Tryz.underlying22 his hzs hs1 hs2 [(0, .slice (some ⟨gA, 0, none⟩) 1 1)] rfl (hls _) ?_;intro gB z16004 n0 rB k;simp only [pv]
     have dGxB := l_l rG.lt n0
     have dRxB := l_l rR.lt n0
     have dFxB := l_l rF.lt n0
     have ehPxB := hP.new n0
     have hFxB := fun j hj => Nat.ne_of_lt (Nat.lt_of_lt_of_le (hF.lt (j := j) hj) n0)
     have dAxB := l_l rA.lt n0
     have bB := Nat.le_trans sb.size n0
     clear n0;replace rG := k.ro rG;replace rR := k.ro rR;replace rF := k.ro rF
     replace hP := hP.on k (own_ne0 _)
     replace hF := hF.below k.nil;replace rA := k.ro rA;replace sb := kk sb k;clear k
     replace hP := ownE_congr (D := (fun j => #[.slice (some ⟨upR R i gA j, 0, none⟩) 1 1])) hP (fun j hj => by show #[_] = #[_]; rw [upR_lt R hj])
     refine pw_appE (by rfl) _ _ (22) rfl (w.heap.size) 23 is' _ 1 24 Tryz.underlying22 his hzs hszs hbys rfl (by decide) (by decide) (_) (i) ((fun j => #[.slice (some ⟨upR R i gA j, 0, none⟩) 1 1])) ((hon _)) rfl hP gB _ rfl (by show Row _ gB #[.slice (some ⟨upR R i gA i, 0, none⟩) 1 1] _; rw [upR_at]; exact rB) ((one_s _)) ((by omega)) sb.size ?_
     have h0 := hP
     clear hP;intro v1 z16005 hP k hp;simp only [pv]
     have crG := rG.lt
     replace rG := k.row rG (by first | exact own_nin ehPxG | exact own_nin (h0.low (by omega)))
     have crR := rR.lt
     replace rR := k.row rR (by first | exact own_nin ehPxR | exact own_nin (h0.low (by omega)))
     have crF := rF.lt
     replace rF := k.row rF (by first | exact own_nin ehPxF | exact own_nin (h0.low (by omega)))
     have chF := fun j hj => hF.lt (j := j) hj
     replace hF := hF.on k (fun j hj => own_nin (ehPxhF j hj))
     replace ehPxhF := fun j hj => own_apart hp (chF j hj) (ehPxhF j hj)
     clear chF
     have crA := rA.lt
     replace rA := k.row rA (by first | exact own_nin ehPxA | exact own_nin (h0.low (by omega)))
     have crB := rB.lt
     replace rB := k.row rB (by first | exact own_nin ehPxB | exact own_nin (h0.low (by omega)))
     (try replace ehPxG := own_apart hp crG ehPxG)
     clear crG
     (try replace ehPxR := own_apart hp crR ehPxR)
     clear crR
     (try replace ehPxF := own_apart hp crF ehPxF)
     clear crF
     (try replace ehPxA := own_apart hp crA ehPxA)
     clear crA
     (try replace ehPxB := own_apart hp crB ehPxB)
     clear crB;clear hp
     replace sb := sb.trans (k.below w.heap.size sb.size h0.base)
     clear h0;clear k;refine p_a (pw_nil ?_);simp only [pv]
     have hF2 := hF.add (V := fun j _ => j) hFxA bA (by show Row _ gA (nsC 1 (fun _ => i)) 45; rw [nsC_1 i]; exact rA)
     have eh2 : ∀ j, j < i + 1 → v1.ownBlock ≠ some (upR R i gA j) := fun j hj => by
      by_cases e : j = i
      ·subst e; rw [upR_at]; exact ehPxA
      ·rw [upR_lt R (show j < i by omega)]; exact ehPxhF j (by omega)
     clear hF hFxA rA rB
     generalize upR R i gA = R2 at *
     repeat ((fail_if_success with_reducible apply rg); go_step)
     refine rp ?_;refine p_m ?_;simp only [pv];refine p_v (.int .i64 ((i + 1 : Nat) : Int)) (x_a i 1) ?_;refine p_a (pw_nil ?_);simp only [pv]
     go_wp2
     go_roundg y
     case measure => omega
     case rel => exact ⟨i + 1, R2, by omega, rfl, hP, hF2, ehPxG, ehPxR, ehPxF, eh2, ⟨rG, rR, rF⟩, sb⟩
    | zero =>
     obtain rfl : i = 17 := by omega
     clear hi
     obtain ⟨ap, cp, hcp, rfl⟩ : ∃ ap cp, 17 ≤ cp ∧ _ = Value.slice ap 17 cp := by
      obtain ⟨ap, cp, _, _, e, h, _⟩ := ownE_els (k := 1) (C := (fun j => #[.slice (some ⟨R j, 0, none⟩) 1 1])) (fun j => rfl) hP
      exact ⟨ap, cp, h, e⟩
     repeat ((fail_if_success with_reducible apply rg); go_step)
     refine rp ?_;refine p_m ?_;refine p_v (.bool false) (lt_f 17 17) (pw_nil ?_);simp only [pv]
     repeat ((fail_if_success with_reducible apply rg); go_step)
     refine rp ?_;refine p_m ?_;refine p_m ?_;simp only [pv];refine pw_make (by rfl) 23 45 _ _ rfl ie _ Tryz.underlying23 hie hze 17 rfl rfl (by rw [hsz]; decide) (by rw [hby]; decide) (by decide) ?_;intro gU z17002 n0 rU k;simp only [pv]
     have dGxU := l_l rG.lt n0
     have dRxU := l_l rR.lt n0
     have dFxU := l_l rF.lt n0
     have ehPxU := hP.new n0
     have hFxU := fun j hj => Nat.ne_of_lt (Nat.lt_of_lt_of_le (hF.lt (j := j) hj) n0)
     have bU := Nat.le_trans sb.size n0
     clear n0;replace rG := k.ro rG;replace rR := k.ro rR;replace rF := k.ro rF
     replace hP := hP.on k (own_ne0 _)
     replace hF := hF.below k.nil;replace sb := kk sb k;clear k;refine p_c 8 Tryz.func8 #[.pointer (some ⟨g, 0, none⟩), .slice ap 17 cp, .slice (some ⟨gU, 0, none⟩) 17 17] (hmany _ g gr gf ⟨rG, rR, rF⟩ ap cp gU) ?_;intro z17003 k;simp only [pv];replace rG := k.ro rG;replace rR := k.ro rR;replace rF := k.ro rF
     replace hP := hP.on k (own_ne0 _)
     replace hF := hF.below k.nil;replace rU := k.ro rU;replace sb := kk sb k;clear k;refine p_m ?_;refine p_e ?_;refine p_e ?_;refine p_a ?_;refine p_a (pw_nil ?_);simp only [pv];clear rU
     repeat ((fail_if_success with_reducible apply rg); go_step)
     refine wp_region_otb (by kernel_rfl) [] (.node 1 3 (.node 2 3 (.leaf [(0, false), (1, true), (2, true), (3, true), (4, true), (5, false), (6, false), (7, false), (8, false), (9, false)]) (.leaf [(0, false), (1, true), (3, true), (2, true), (4, true), (5, false), (6, false), (7, false), (8, false), (9, false)])) (.leaf [(0, false), (3, true), (1, true), (2, true), (4, true), (5, false), (6, false), (7, false), (8, false), (9, false)])) ?_ (by kernel_rfl)
     refine ⟨⟨?_, ?_⟩, ?_⟩
     ·show EW _ _ _ _ _ _ _ _
      have orG := rG
      have orR := rR
      have orF := rF
      have cb := below_self sb
      have osb := sb
      have ohF := hF
      refine e_m ?_;simp only [pv];refine ew_make (by rfl) 23 45 _ _ rfl ie _ Tryz.underlying23 hie hze 17 rfl rfl (by rw [hsz]; decide) (by rw [hby]; decide) (by decide) ?_;intro wa1 hqb gE wb1 n0 rE hb
      refine ⟨fun _ => below_on (below_on cb (Nat.le_refl _) hqb) (Nat.le_refl _) hb, ?_⟩
      simp only [pv];replace rG := rG.belowAll hqb;replace rR := rR.belowAll hqb;replace rF := rF.belowAll hqb;replace hF := hF.below hqb
      replace hP := hP.on (Kept.ofBelow hqb) (own_ne0 _)
      replace sb := b_o sb hqb;replace cb := b_o cb hqb
      have dGxE := l_l rG.lt n0
      have dRxE := l_l rR.lt n0
      have dFxE := l_l rF.lt n0
      have hFxE := fun j hj => Nat.ne_of_lt (Nat.lt_of_lt_of_le (hF.lt (j := j) hj) n0)
      have bE := Nat.le_trans sb.size n0
      replace rG := rG.belowAll hb;replace rR := rR.belowAll hb;replace rF := rF.belowAll hb;replace hF := hF.below hb
      replace hP := hP.on (Kept.ofBelow hb) (own_ne0 _)
      replace sb := b_o sb hb;replace cb := b_o cb hb;clear hqb hb n0;refine ew_litr (by rfl) 22 23 1 _ rfl (#[.slice (some ⟨gE, 0, none⟩) 17 17]) is' _ Tryz.underlying22 his hzs hs1 hs2 [(0, .slice (some ⟨gE, 0, none⟩) 17 17)] rfl (hl17 _) ?_;intro wa2 hqb gH wb2 n0 rH hb
      refine ⟨fun _ => below_on (below_on cb (Nat.le_refl _) hqb) (Nat.le_refl _) hb, ?_⟩
      simp only [pv];replace rG := rG.belowAll hqb;replace rR := rR.belowAll hqb;replace rF := rF.belowAll hqb;replace hF := hF.below hqb
      replace hP := hP.on (Kept.ofBelow hqb) (own_ne0 _)
      replace rE := rE.belowAll hqb;replace sb := b_o sb hqb;replace cb := b_o cb hqb
      have dGxH := l_l rG.lt n0
      have dRxH := l_l rR.lt n0
      have dFxH := l_l rF.lt n0
      have hFxH := fun j hj => Nat.ne_of_lt (Nat.lt_of_lt_of_le (hF.lt (j := j) hj) n0)
      have dExH := l_l rE.lt n0
      have bH := Nat.le_trans sb.size n0
      replace rG := rG.belowAll hb;replace rR := rR.belowAll hb;replace rF := rF.belowAll hb;replace hF := hF.below hb
      replace hP := hP.on (Kept.ofBelow hb) (own_ne0 _)
      replace rE := rE.belowAll hb;replace sb := b_o sb hb;replace cb := b_o cb hb;clear hqb hb n0;refine ew_make (by rfl) 23 45 _ _ rfl ie _ Tryz.underlying23 hie hze 1 rfl rfl (by rw [hsz]; decide) (by rw [hby]; decide) (by decide) ?_;intro wa3 hqb gK wb3 n0 rK hb
      refine ⟨fun _ => below_on (below_on cb (Nat.le_refl _) hqb) (Nat.le_refl _) hb, ?_⟩
      simp only [pv];replace rG := rG.belowAll hqb;replace rR := rR.belowAll hqb;replace rF := rF.belowAll hqb;replace hF := hF.below hqb
      replace hP := hP.on (Kept.ofBelow hqb) (own_ne0 _)
      replace rE := rE.belowAll hqb;replace rH := rH.belowAll hqb;replace sb := b_o sb hqb;replace cb := b_o cb hqb
      have dGxK := l_l rG.lt n0
      have dRxK := l_l rR.lt n0
      have dFxK := l_l rF.lt n0
      have hFxK := fun j hj => Nat.ne_of_lt (Nat.lt_of_lt_of_le (hF.lt (j := j) hj) n0)
      have dExK := l_l rE.lt n0
      have dHxK := l_l rH.lt n0
      have bK := Nat.le_trans sb.size n0
      replace rG := rG.belowAll hb;replace rR := rR.belowAll hb;replace rF := rF.belowAll hb;replace hF := hF.below hb
      replace hP := hP.on (Kept.ofBelow hb) (own_ne0 _)
      replace rE := rE.belowAll hb;replace rH := rH.belowAll hb;replace sb := b_o sb hb;replace cb := b_o cb hb;clear hqb hb n0;refine ew_callE (by rfl) 8 _ _ rfl Tryz.func8 (by kernel_rfl) #[.pointer (some ⟨g, 0, none⟩), .slice (some ⟨gH, 0, none⟩) 1 1, .slice (some ⟨gK, 0, none⟩) 1 1] rfl ?_;intro wa4 hqb;replace rG := rG.belowAll hqb;replace rR := rR.belowAll hqb;replace rF := rF.belowAll hqb;replace hF := hF.below hqb
      replace hP := hP.on (Kept.ofBelow hqb) (own_ne0 _)
      replace rE := rE.belowAll hqb;replace rH := rH.belowAll hqb;replace rK := rK.belowAll hqb;replace sb := b_o sb hqb;replace cb := b_o cb hqb;clear hqb;refine (hcol _ g gr gf ⟨rG, rR, rF⟩ gE gH gK rH).mono ?_
      rintro _ wb4 ⟨rfl, hb⟩
      refine ⟨_, rfl, fun _ => below_on cb (Nat.le_refl _) hb, ?_⟩
      simp only [pv];replace rG := rG.belowAll hb;replace rR := rR.belowAll hb;replace rF := rF.belowAll hb;replace hF := hF.below hb
      replace hP := hP.on (Kept.ofBelow hb) (own_ne0 _)
      replace rE := rE.belowAll hb;replace rH := rH.belowAll hb;replace rK := rK.belowAll hb;replace sb := b_o sb hb;replace cb := b_o cb hb;clear hb;refine e_m ?_;refine ew_ext (by rfl) rfl rfl rfl ?_;refine ew_ext (by rfl) rfl rfl rfl ?_;refine ew_as (by rfl) rfl rfl ?_;refine ew_as (by rfl) rfl rfl ?_;simp only [pv];refine ew_nil ?_;intro wz hqb;replace rG := rG.belowAll hqb;replace rR := rR.belowAll hqb;replace rF := rF.belowAll hqb;replace hF := hF.below hqb
      replace hP := hP.on (Kept.ofBelow hqb) (own_ne0 _)
      replace rE := rE.belowAll hqb;replace rH := rH.belowAll hqb;replace rK := rK.belowAll hqb;replace sb := b_o sb hqb;clear hqb cb osb ohF orG orR orF;clear rE rH rK
      have hP18 := hP
      repeat ((fail_if_success with_reducible apply rg); go_step)
      refine wp_region_ewb (by kernel_rfl) [] [(0, false), (1, false), (2, false), (3, true), (4, true), (5, false), (6, false), (7, false), (8, false), (9, false)] ?_ (by kernel_rfl)
      have orG := rG
      have orR := rR
      have orF := rF
      have cb := below_self sb
      have osb := sb
      have ohF := hF
      refine e_m ?_;refine e_m ?_;simp only [pv];refine e_v (.slice ap 16 cp) (y_first _ _ _ rfl sl_ll 1 size_ell ap 17 cp 16 rfl rfl (by omega)) ?_;simp only [pv];refine ew_make (by rfl) 23 45 _ _ rfl ie _ Tryz.underlying23 hie hze 16 rfl rfl (by rw [hsz]; decide) (by rw [hby]; decide) (by decide) ?_;intro wa3 hqb gM wb3 n0 rM hb
      refine ⟨fun _ => below_on (below_on cb (Nat.le_refl _) hqb) (Nat.le_refl _) hb, ?_⟩
      simp only [pv];replace rG := rG.belowAll hqb;replace rR := rR.belowAll hqb;replace rF := rF.belowAll hqb;replace hF := hF.below hqb
      replace hP := hP.on (Kept.ofBelow hqb) (own_ne0 _)
      replace sb := b_o sb hqb;replace cb := b_o cb hqb
      have dGxM := l_l rG.lt n0
      have dRxM := l_l rR.lt n0
      have dFxM := l_l rF.lt n0
      have hFxM := fun j hj => Nat.ne_of_lt (Nat.lt_of_lt_of_le (hF.lt (j := j) hj) n0)
      have bM := Nat.le_trans sb.size n0
      replace rG := rG.belowAll hb;replace rR := rR.belowAll hb;replace rF := rF.belowAll hb;replace hF := hF.below hb
      replace hP := hP.on (Kept.ofBelow hb) (own_ne0 _)
      replace sb := b_o sb hb;replace cb := b_o cb hb;clear hqb hb n0;refine ew_callE (by rfl) 8 _ _ rfl Tryz.func8 (by kernel_rfl) #[.pointer (some ⟨g, 0, none⟩), .slice ap 16 cp, .slice (some ⟨gM, 0, none⟩) 16 16] rfl ?_;intro wa4 hqb;replace rG := rG.belowAll hqb;replace rR := rR.belowAll hqb;replace rF := rF.belowAll hqb;replace hF := hF.below hqb
      replace hP := hP.on (Kept.ofBelow hqb) (own_ne0 _)
      replace rM := rM.belowAll hqb;replace sb := b_o sb hqb;replace cb := b_o cb hqb;clear hqb;refine (hok _ g gr gf ⟨rG, rR, rF⟩ ap cp R gM hP hF (by rw [hsz, made_nats] at rM; exact rM)).mono ?_
      rintro _ wb4 ⟨vx, rfl, hb⟩
      refine ⟨_, rfl, fun _ => below_on cb (Nat.le_refl _) hb, ?_⟩
      simp only [pv];replace rG := rG.belowAll hb;replace rR := rR.belowAll hb;replace rF := rF.belowAll hb;replace hF := hF.below hb
      replace hP := hP.on (Kept.ofBelow hb) (own_ne0 _)
      replace rM := rM.belowAll hb;replace sb := b_o sb hb;replace cb := b_o cb hb;clear hb;refine e_m ?_;refine ew_ext (by rfl) rfl rfl rfl ?_;refine ew_ext (by rfl) rfl rfl rfl ?_;refine ew_as (by rfl) rfl rfl ?_;refine ew_as (by rfl) rfl rfl ?_;simp only [pv];refine ew_nil ?_;intro wz hqb;replace rG := rG.belowAll hqb;replace rR := rR.belowAll hqb;replace rF := rF.belowAll hqb;replace hF := hF.below hqb
      replace hP := hP.on (Kept.ofBelow hqb) (own_ne0 _)
      replace rM := rM.belowAll hqb;replace sb := b_o sb hqb;clear hqb cb osb ohF orG orR orF
      repeat ((fail_if_success with_reducible apply rg); go_step)
      refine rp ?_;refine p_m ?_;refine p_m ?_;refine p_m ?_;simp only [pv];refine p_v (.bool true) (exec_eql_k .i64 _ _ _ _ rfl 1 1 rfl rfl true rfl) ?_;refine p_k true (.bool true) ?_;refine p_m ?_;refine p_m ?_;simp only [pv];refine p_v (.bool true) (exec_eql_k .i64 _ _ _ _ rfl 1 1 rfl rfl true rfl) ?_;refine p_k true (.bool true) ?_;refine p_m ?_;refine p_m ?_;simp only [pv];refine p_v (.bool true) (exec_eql_k .i64 _ _ _ _ rfl 0 0 rfl rfl true rfl) ?_;refine p_k true (.bool true) ?_;refine p_m ?_;simp only [pv];refine p_c 6 Tryz.func6 #[] (haw _) ?_;intro z20014 k;simp only [pv];replace sb := kk sb k;clear k;refine p_k true (.bool true) ?_;refine p_a (pw_nil ?_);simp only [pv]
      go_wp2
      go_ret
      exact ⟨rfl, sb⟩
     ·show EW _ _ _ _ _ _ _ _
      have orG := rG
      have orR := rR
      have orF := rF
      have cb := below_self sb
      have osb := sb
      have ohF := hF
      refine e_m ?_;simp only [pv];refine ew_make (by rfl) 23 45 _ _ rfl ie _ Tryz.underlying23 hie hze 17 rfl rfl (by rw [hsz]; decide) (by rw [hby]; decide) (by decide) ?_;intro wa1 hqb gE wb1 n0 rE hb
      refine ⟨fun _ => below_on (below_on cb (Nat.le_refl _) hqb) (Nat.le_refl _) hb, ?_⟩
      simp only [pv];replace rG := rG.belowAll hqb;replace rR := rR.belowAll hqb;replace rF := rF.belowAll hqb;replace hF := hF.below hqb
      replace hP := hP.on (Kept.ofBelow hqb) (own_ne0 _)
      replace sb := b_o sb hqb;replace cb := b_o cb hqb
      have dGxE := l_l rG.lt n0
      have dRxE := l_l rR.lt n0
      have dFxE := l_l rF.lt n0
      have hFxE := fun j hj => Nat.ne_of_lt (Nat.lt_of_lt_of_le (hF.lt (j := j) hj) n0)
      have bE := Nat.le_trans sb.size n0
      replace rG := rG.belowAll hb;replace rR := rR.belowAll hb;replace rF := rF.belowAll hb;replace hF := hF.below hb
      replace hP := hP.on (Kept.ofBelow hb) (own_ne0 _)
      replace sb := b_o sb hb;replace cb := b_o cb hb;clear hqb hb n0;refine ew_make (by rfl) 23 45 _ _ rfl ie _ Tryz.underlying23 hie hze 1 rfl rfl (by rw [hsz]; decide) (by rw [hby]; decide) (by decide) ?_;intro wa3 hqb gK wb3 n0 rK hb
      refine ⟨fun _ => below_on (below_on cb (Nat.le_refl _) hqb) (Nat.le_refl _) hb, ?_⟩
      simp only [pv];replace rG := rG.belowAll hqb;replace rR := rR.belowAll hqb;replace rF := rF.belowAll hqb;replace hF := hF.below hqb
      replace hP := hP.on (Kept.ofBelow hqb) (own_ne0 _)
      replace rE := rE.belowAll hqb;replace sb := b_o sb hqb;replace cb := b_o cb hqb
      have dGxK := l_l rG.lt n0
      have dRxK := l_l rR.lt n0
      have dFxK := l_l rF.lt n0
      have hFxK := fun j hj => Nat.ne_of_lt (Nat.lt_of_lt_of_le (hF.lt (j := j) hj) n0)
      have dExK := l_l rE.lt n0
      have bK := Nat.le_trans sb.size n0
      replace rG := rG.belowAll hb;replace rR := rR.belowAll hb;replace rF := rF.belowAll hb;replace hF := hF.below hb
      replace hP := hP.on (Kept.ofBelow hb) (own_ne0 _)
      replace rE := rE.belowAll hb;replace sb := b_o sb hb;replace cb := b_o cb hb;clear hqb hb n0;refine ew_litr (by rfl) 22 23 1 _ rfl (#[.slice (some ⟨gE, 0, none⟩) 17 17]) is' _ Tryz.underlying22 his hzs hs1 hs2 [(0, .slice (some ⟨gE, 0, none⟩) 17 17)] rfl (hl17 _) ?_;intro wa2 hqb gH wb2 n0 rH hb
      refine ⟨fun _ => below_on (below_on cb (Nat.le_refl _) hqb) (Nat.le_refl _) hb, ?_⟩
      simp only [pv];replace rG := rG.belowAll hqb;replace rR := rR.belowAll hqb;replace rF := rF.belowAll hqb;replace hF := hF.below hqb
      replace hP := hP.on (Kept.ofBelow hqb) (own_ne0 _)
      replace rE := rE.belowAll hqb;replace rK := rK.belowAll hqb;replace sb := b_o sb hqb;replace cb := b_o cb hqb
      have dGxH := l_l rG.lt n0
      have dRxH := l_l rR.lt n0
      have dFxH := l_l rF.lt n0
      have hFxH := fun j hj => Nat.ne_of_lt (Nat.lt_of_lt_of_le (hF.lt (j := j) hj) n0)
      have dExH := l_l rE.lt n0
      have dKxH := l_l rK.lt n0
      have bH := Nat.le_trans sb.size n0
      replace rG := rG.belowAll hb;replace rR := rR.belowAll hb;replace rF := rF.belowAll hb;replace hF := hF.below hb
      replace hP := hP.on (Kept.ofBelow hb) (own_ne0 _)
      replace rE := rE.belowAll hb;replace rK := rK.belowAll hb;replace sb := b_o sb hb;replace cb := b_o cb hb;clear hqb hb n0;refine ew_callE (by rfl) 8 _ _ rfl Tryz.func8 (by kernel_rfl) #[.pointer (some ⟨g, 0, none⟩), .slice (some ⟨gH, 0, none⟩) 1 1, .slice (some ⟨gK, 0, none⟩) 1 1] rfl ?_;intro wa4 hqb;replace rG := rG.belowAll hqb;replace rR := rR.belowAll hqb;replace rF := rF.belowAll hqb;replace hF := hF.below hqb
      replace hP := hP.on (Kept.ofBelow hqb) (own_ne0 _)
      replace rE := rE.belowAll hqb;replace rK := rK.belowAll hqb;replace rH := rH.belowAll hqb;replace sb := b_o sb hqb;replace cb := b_o cb hqb;clear hqb;refine (hcol _ g gr gf ⟨rG, rR, rF⟩ gE gH gK rH).mono ?_
      rintro _ wb4 ⟨rfl, hb⟩
      refine ⟨_, rfl, fun _ => below_on cb (Nat.le_refl _) hb, ?_⟩
      simp only [pv];replace rG := rG.belowAll hb;replace rR := rR.belowAll hb;replace rF := rF.belowAll hb;replace hF := hF.below hb
      replace hP := hP.on (Kept.ofBelow hb) (own_ne0 _)
      replace rE := rE.belowAll hb;replace rK := rK.belowAll hb;replace rH := rH.belowAll hb;replace sb := b_o sb hb;replace cb := b_o cb hb;clear hb;refine e_m ?_;refine ew_ext (by rfl) rfl rfl rfl ?_;refine ew_ext (by rfl) rfl rfl rfl ?_;refine ew_as (by rfl) rfl rfl ?_;refine ew_as (by rfl) rfl rfl ?_;simp only [pv];refine ew_nil ?_;intro wz hqb;replace rG := rG.belowAll hqb;replace rR := rR.belowAll hqb;replace rF := rF.belowAll hqb;replace hF := hF.below hqb
      replace hP := hP.on (Kept.ofBelow hqb) (own_ne0 _)
      replace rE := rE.belowAll hqb;replace rK := rK.belowAll hqb;replace rH := rH.belowAll hqb;replace sb := b_o sb hqb;clear hqb cb osb ohF orG orR orF;clear rE rH rK
      have hP18 := hP
      repeat ((fail_if_success with_reducible apply rg); go_step)
      refine wp_region_ewb (by kernel_rfl) [] [(0, false), (1, false), (2, false), (3, true), (4, true), (5, false), (6, false), (7, false), (8, false), (9, false)] ?_ (by kernel_rfl)
      have orG := rG
      have orR := rR
      have orF := rF
      have cb := below_self sb
      have osb := sb
      have ohF := hF
      refine e_m ?_;refine e_m ?_;simp only [pv];refine e_v (.slice ap 16 cp) (y_first _ _ _ rfl sl_ll 1 size_ell ap 17 cp 16 rfl rfl (by omega)) ?_;simp only [pv];refine ew_make (by rfl) 23 45 _ _ rfl ie _ Tryz.underlying23 hie hze 16 rfl rfl (by rw [hsz]; decide) (by rw [hby]; decide) (by decide) ?_;intro wa3 hqb gM wb3 n0 rM hb
      refine ⟨fun _ => below_on (below_on cb (Nat.le_refl _) hqb) (Nat.le_refl _) hb, ?_⟩
      simp only [pv];replace rG := rG.belowAll hqb;replace rR := rR.belowAll hqb;replace rF := rF.belowAll hqb;replace hF := hF.below hqb
      replace hP := hP.on (Kept.ofBelow hqb) (own_ne0 _)
      replace sb := b_o sb hqb;replace cb := b_o cb hqb
      have dGxM := l_l rG.lt n0
      have dRxM := l_l rR.lt n0
      have dFxM := l_l rF.lt n0
      have hFxM := fun j hj => Nat.ne_of_lt (Nat.lt_of_lt_of_le (hF.lt (j := j) hj) n0)
      have bM := Nat.le_trans sb.size n0
      replace rG := rG.belowAll hb;replace rR := rR.belowAll hb;replace rF := rF.belowAll hb;replace hF := hF.below hb
      replace hP := hP.on (Kept.ofBelow hb) (own_ne0 _)
      replace sb := b_o sb hb;replace cb := b_o cb hb;clear hqb hb n0;refine ew_callE (by rfl) 8 _ _ rfl Tryz.func8 (by kernel_rfl) #[.pointer (some ⟨g, 0, none⟩), .slice ap 16 cp, .slice (some ⟨gM, 0, none⟩) 16 16] rfl ?_;intro wa4 hqb;replace rG := rG.belowAll hqb;replace rR := rR.belowAll hqb;replace rF := rF.belowAll hqb;replace hF := hF.below hqb
      replace hP := hP.on (Kept.ofBelow hqb) (own_ne0 _)
      replace rM := rM.belowAll hqb;replace sb := b_o sb hqb;replace cb := b_o cb hqb;clear hqb;refine (hok _ g gr gf ⟨rG, rR, rF⟩ ap cp R gM hP hF (by rw [hsz, made_nats] at rM; exact rM)).mono ?_
      rintro _ wb4 ⟨vx, rfl, hb⟩
      refine ⟨_, rfl, fun _ => below_on cb (Nat.le_refl _) hb, ?_⟩
      simp only [pv];replace rG := rG.belowAll hb;replace rR := rR.belowAll hb;replace rF := rF.belowAll hb;replace hF := hF.below hb
      replace hP := hP.on (Kept.ofBelow hb) (own_ne0 _)
      replace rM := rM.belowAll hb;replace sb := b_o sb hb;replace cb := b_o cb hb;clear hb;refine e_m ?_;refine ew_ext (by rfl) rfl rfl rfl ?_;refine ew_ext (by rfl) rfl rfl rfl ?_;refine ew_as (by rfl) rfl rfl ?_;refine ew_as (by rfl) rfl rfl ?_;simp only [pv];refine ew_nil ?_;intro wz hqb;replace rG := rG.belowAll hqb;replace rR := rR.belowAll hqb;replace rF := rF.belowAll hqb;replace hF := hF.below hqb
      replace hP := hP.on (Kept.ofBelow hqb) (own_ne0 _)
      replace rM := rM.belowAll hqb;replace sb := b_o sb hqb;clear hqb cb osb ohF orG orR orF
      repeat ((fail_if_success with_reducible apply rg); go_step)
      refine rp ?_;refine p_m ?_;refine p_m ?_;refine p_m ?_;simp only [pv];refine p_v (.bool true) (exec_eql_k .i64 _ _ _ _ rfl 1 1 rfl rfl true rfl) ?_;refine p_k true (.bool true) ?_;refine p_m ?_;refine p_m ?_;simp only [pv];refine p_v (.bool true) (exec_eql_k .i64 _ _ _ _ rfl 1 1 rfl rfl true rfl) ?_;refine p_k true (.bool true) ?_;refine p_m ?_;refine p_m ?_;simp only [pv];refine p_v (.bool true) (exec_eql_k .i64 _ _ _ _ rfl 0 0 rfl rfl true rfl) ?_;refine p_k true (.bool true) ?_;refine p_m ?_;simp only [pv];refine p_c 6 Tryz.func6 #[] (haw _) ?_;intro z20014 k;simp only [pv];replace sb := kk sb k;clear k;refine p_k true (.bool true) ?_;refine p_a (pw_nil ?_);simp only [pv]
      go_wp2
      go_ret
      exact ⟨rfl, sb⟩
     ·show EW _ _ _ _ _ _ _ _
      have orG := rG
      have orR := rR
      have orF := rF
      have cb := below_self sb
      have osb := sb
      have ohF := hF
      refine e_m ?_;simp only [pv];refine ew_make (by rfl) 23 45 _ _ rfl ie _ Tryz.underlying23 hie hze 1 rfl rfl (by rw [hsz]; decide) (by rw [hby]; decide) (by decide) ?_;intro wa3 hqb gK wb3 n0 rK hb
      refine ⟨fun _ => below_on (below_on cb (Nat.le_refl _) hqb) (Nat.le_refl _) hb, ?_⟩
      simp only [pv];replace rG := rG.belowAll hqb;replace rR := rR.belowAll hqb;replace rF := rF.belowAll hqb;replace hF := hF.below hqb
      replace hP := hP.on (Kept.ofBelow hqb) (own_ne0 _)
      replace sb := b_o sb hqb;replace cb := b_o cb hqb
      have dGxK := l_l rG.lt n0
      have dRxK := l_l rR.lt n0
      have dFxK := l_l rF.lt n0
      have hFxK := fun j hj => Nat.ne_of_lt (Nat.lt_of_lt_of_le (hF.lt (j := j) hj) n0)
      have bK := Nat.le_trans sb.size n0
      replace rG := rG.belowAll hb;replace rR := rR.belowAll hb;replace rF := rF.belowAll hb;replace hF := hF.below hb
      replace hP := hP.on (Kept.ofBelow hb) (own_ne0 _)
      replace sb := b_o sb hb;replace cb := b_o cb hb;clear hqb hb n0;refine ew_make (by rfl) 23 45 _ _ rfl ie _ Tryz.underlying23 hie hze 17 rfl rfl (by rw [hsz]; decide) (by rw [hby]; decide) (by decide) ?_;intro wa1 hqb gE wb1 n0 rE hb
      refine ⟨fun _ => below_on (below_on cb (Nat.le_refl _) hqb) (Nat.le_refl _) hb, ?_⟩
      simp only [pv];replace rG := rG.belowAll hqb;replace rR := rR.belowAll hqb;replace rF := rF.belowAll hqb;replace hF := hF.below hqb
      replace hP := hP.on (Kept.ofBelow hqb) (own_ne0 _)
      replace rK := rK.belowAll hqb;replace sb := b_o sb hqb;replace cb := b_o cb hqb
      have dGxE := l_l rG.lt n0
      have dRxE := l_l rR.lt n0
      have dFxE := l_l rF.lt n0
      have hFxE := fun j hj => Nat.ne_of_lt (Nat.lt_of_lt_of_le (hF.lt (j := j) hj) n0)
      have dKxE := l_l rK.lt n0
      have bE := Nat.le_trans sb.size n0
      replace rG := rG.belowAll hb;replace rR := rR.belowAll hb;replace rF := rF.belowAll hb;replace hF := hF.below hb
      replace hP := hP.on (Kept.ofBelow hb) (own_ne0 _)
      replace rK := rK.belowAll hb;replace sb := b_o sb hb;replace cb := b_o cb hb;clear hqb hb n0;refine ew_litr (by rfl) 22 23 1 _ rfl (#[.slice (some ⟨gE, 0, none⟩) 17 17]) is' _ Tryz.underlying22 his hzs hs1 hs2 [(0, .slice (some ⟨gE, 0, none⟩) 17 17)] rfl (hl17 _) ?_;intro wa2 hqb gH wb2 n0 rH hb
      refine ⟨fun _ => below_on (below_on cb (Nat.le_refl _) hqb) (Nat.le_refl _) hb, ?_⟩
      simp only [pv];replace rG := rG.belowAll hqb;replace rR := rR.belowAll hqb;replace rF := rF.belowAll hqb;replace hF := hF.below hqb
      replace hP := hP.on (Kept.ofBelow hqb) (own_ne0 _)
      replace rK := rK.belowAll hqb;replace rE := rE.belowAll hqb;replace sb := b_o sb hqb;replace cb := b_o cb hqb
      have dGxH := l_l rG.lt n0
      have dRxH := l_l rR.lt n0
      have dFxH := l_l rF.lt n0
      have hFxH := fun j hj => Nat.ne_of_lt (Nat.lt_of_lt_of_le (hF.lt (j := j) hj) n0)
      have dKxH := l_l rK.lt n0
      have dExH := l_l rE.lt n0
      have bH := Nat.le_trans sb.size n0
      replace rG := rG.belowAll hb;replace rR := rR.belowAll hb;replace rF := rF.belowAll hb;replace hF := hF.below hb
      replace hP := hP.on (Kept.ofBelow hb) (own_ne0 _)
      replace rK := rK.belowAll hb;replace rE := rE.belowAll hb;replace sb := b_o sb hb;replace cb := b_o cb hb;clear hqb hb n0;refine ew_callE (by rfl) 8 _ _ rfl Tryz.func8 (by kernel_rfl) #[.pointer (some ⟨g, 0, none⟩), .slice (some ⟨gH, 0, none⟩) 1 1, .slice (some ⟨gK, 0, none⟩) 1 1] rfl ?_;intro wa4 hqb;replace rG := rG.belowAll hqb;replace rR := rR.belowAll hqb;replace rF := rF.belowAll hqb;replace hF := hF.below hqb
      replace hP := hP.on (Kept.ofBelow hqb) (own_ne0 _)
      replace rK := rK.belowAll hqb;replace rE := rE.belowAll hqb;replace rH := rH.belowAll hqb;replace sb := b_o sb hqb;replace cb := b_o cb hqb;clear hqb;refine (hcol _ g gr gf ⟨rG, rR, rF⟩ gE gH gK rH).mono ?_
      rintro _ wb4 ⟨rfl, hb⟩
      refine ⟨_, rfl, fun _ => below_on cb (Nat.le_refl _) hb, ?_⟩
      simp only [pv];replace rG := rG.belowAll hb;replace rR := rR.belowAll hb;replace rF := rF.belowAll hb;replace hF := hF.below hb
      replace hP := hP.on (Kept.ofBelow hb) (own_ne0 _)
      replace rK := rK.belowAll hb;replace rE := rE.belowAll hb;replace rH := rH.belowAll hb;replace sb := b_o sb hb;replace cb := b_o cb hb;clear hb;refine e_m ?_;refine ew_ext (by rfl) rfl rfl rfl ?_;refine ew_ext (by rfl) rfl rfl rfl ?_;refine ew_as (by rfl) rfl rfl ?_;refine ew_as (by rfl) rfl rfl ?_;simp only [pv];refine ew_nil ?_;intro wz hqb;replace rG := rG.belowAll hqb;replace rR := rR.belowAll hqb;replace rF := rF.belowAll hqb;replace hF := hF.below hqb
      replace hP := hP.on (Kept.ofBelow hqb) (own_ne0 _)
      replace rK := rK.belowAll hqb;replace rE := rE.belowAll hqb;replace rH := rH.belowAll hqb;replace sb := b_o sb hqb;clear hqb cb osb ohF orG orR orF;clear rE rH rK
      have hP18 := hP
      repeat ((fail_if_success with_reducible apply rg); go_step)
      refine wp_region_ewb (by kernel_rfl) [] [(0, false), (1, false), (2, false), (3, true), (4, true), (5, false), (6, false), (7, false), (8, false), (9, false)] ?_ (by kernel_rfl)
      have orG := rG
      have orR := rR
      have orF := rF
      have cb := below_self sb
      have osb := sb
      have ohF := hF
      refine e_m ?_;refine e_m ?_;simp only [pv];refine e_v (.slice ap 16 cp) (y_first _ _ _ rfl sl_ll 1 size_ell ap 17 cp 16 rfl rfl (by omega)) ?_;simp only [pv];refine ew_make (by rfl) 23 45 _ _ rfl ie _ Tryz.underlying23 hie hze 16 rfl rfl (by rw [hsz]; decide) (by rw [hby]; decide) (by decide) ?_;intro wa3 hqb gM wb3 n0 rM hb
      refine ⟨fun _ => below_on (below_on cb (Nat.le_refl _) hqb) (Nat.le_refl _) hb, ?_⟩
      simp only [pv];replace rG := rG.belowAll hqb;replace rR := rR.belowAll hqb;replace rF := rF.belowAll hqb;replace hF := hF.below hqb
      replace hP := hP.on (Kept.ofBelow hqb) (own_ne0 _)
      replace sb := b_o sb hqb;replace cb := b_o cb hqb
      have dGxM := l_l rG.lt n0
      have dRxM := l_l rR.lt n0
      have dFxM := l_l rF.lt n0
      have hFxM := fun j hj => Nat.ne_of_lt (Nat.lt_of_lt_of_le (hF.lt (j := j) hj) n0)
      have bM := Nat.le_trans sb.size n0
      replace rG := rG.belowAll hb;replace rR := rR.belowAll hb;replace rF := rF.belowAll hb;replace hF := hF.below hb
      replace hP := hP.on (Kept.ofBelow hb) (own_ne0 _)
      replace sb := b_o sb hb;replace cb := b_o cb hb;clear hqb hb n0;refine ew_callE (by rfl) 8 _ _ rfl Tryz.func8 (by kernel_rfl) #[.pointer (some ⟨g, 0, none⟩), .slice ap 16 cp, .slice (some ⟨gM, 0, none⟩) 16 16] rfl ?_;intro wa4 hqb;replace rG := rG.belowAll hqb;replace rR := rR.belowAll hqb;replace rF := rF.belowAll hqb;replace hF := hF.below hqb
      replace hP := hP.on (Kept.ofBelow hqb) (own_ne0 _)
      replace rM := rM.belowAll hqb;replace sb := b_o sb hqb;replace cb := b_o cb hqb;clear hqb;refine (hok _ g gr gf ⟨rG, rR, rF⟩ ap cp R gM hP hF (by rw [hsz, made_nats] at rM; exact rM)).mono ?_
      rintro _ wb4 ⟨vx, rfl, hb⟩
      refine ⟨_, rfl, fun _ => below_on cb (Nat.le_refl _) hb, ?_⟩
      simp only [pv];replace rG := rG.belowAll hb;replace rR := rR.belowAll hb;replace rF := rF.belowAll hb;replace hF := hF.below hb
      replace hP := hP.on (Kept.ofBelow hb) (own_ne0 _)
      replace rM := rM.belowAll hb;replace sb := b_o sb hb;replace cb := b_o cb hb;clear hb;refine e_m ?_;refine ew_ext (by rfl) rfl rfl rfl ?_;refine ew_ext (by rfl) rfl rfl rfl ?_;refine ew_as (by rfl) rfl rfl ?_;refine ew_as (by rfl) rfl rfl ?_;simp only [pv];refine ew_nil ?_;intro wz hqb;replace rG := rG.belowAll hqb;replace rR := rR.belowAll hqb;replace rF := rF.belowAll hqb;replace hF := hF.below hqb
      replace hP := hP.on (Kept.ofBelow hqb) (own_ne0 _)
      replace rM := rM.belowAll hqb;replace sb := b_o sb hqb;clear hqb cb osb ohF orG orR orF
      repeat ((fail_if_success with_reducible apply rg); go_step)
      refine rp ?_;refine p_m ?_;refine p_m ?_;refine p_m ?_;simp only [pv];refine p_v (.bool true) (exec_eql_k .i64 _ _ _ _ rfl 1 1 rfl rfl true rfl) ?_;refine p_k true (.bool true) ?_;refine p_m ?_;refine p_m ?_;simp only [pv];refine p_v (.bool true) (exec_eql_k .i64 _ _ _ _ rfl 1 1 rfl rfl true rfl) ?_;refine p_k true (.bool true) ?_;refine p_m ?_;refine p_m ?_;simp only [pv];refine p_v (.bool true) (exec_eql_k .i64 _ _ _ _ rfl 0 0 rfl rfl true rfl) ?_;refine p_k true (.bool true) ?_;refine p_m ?_;simp only [pv];refine p_c 6 Tryz.func6 #[] (haw _) ?_;intro z20014 k;simp only [pv];replace sb := kk sb k;clear k;refine p_k true (.bool true) ?_;refine p_a (pw_nil ?_);simp only [pv]
      go_wp2
      go_ret
      exact ⟨rfl, sb⟩
theorem walk (ab : Option Addr) (n c : Nat) (I : Nat → Int) (Y : Nat → Nat) (gb ob : Nat) (bcs : Array Value) (tb : TypeId) (w : World) (_ : n ≤ c) (_ : ElsAt 5 w ab n (fun k => shC (I k) (Y k)) gb ob bcs tb) (_ : ∀ k, k < n → Y k < 2 ^ 256) (_ : ∀ k, k < n → -9223372036854775808 ≤ I k ∧ I k < 9223372036854775808) :
  Calls Tryz.prog 5 #[.slice ab n c] w fun e w' => e = .returned (.bool true) ∧ Below w.heap.size w w' := by
 by_cases h : 8 < n
 ·exact core0 n c ab w h
 ·exact core1 n c ab w (by omega)
theorem lifted (os : Os) (started : os.Started) (H : Type) (enc : TypeId × Value → H) :
  ReturnsInHanded {} Tryz.checked os 5 .any (Rows.welchNobodySpec.pre6 enc Tryz.prog Tryz.f5 Rows.welchNobodyRow.domain false) (Rows.welchNobodySpec.post enc Tryz.prog Tryz.f5 false true false false) := by
 refine returnsInHanded_of_change (C := Tryz.checked) own started (by kernel_rfl) Tryz.func5
  (ChangeSpec.witness6 (enc := enc) (C := Tryz.checked) false ⟨#[], #[.slice none 0 0], []⟩ 8 (by kernel_rfl) (by kernel_rfl) (by kernel_rfl) (by kernel_rfl)) ?_
 intro W base args ds gs before hval0 hW hcnd _
 have hval : ∀ (j : Nat) t v, Tryz.f5.params[j]? = some t → args[j]? = some v → Value.okWide Tryz.prog W .any base t v := hval0
 have hW' := hW
 obtain ⟨p, q, hA0, hV, rfl, hfz, hnd⟩ := hW
 have hA : DataW.TrodAll enc Tryz.prog W 0 (fun _ => true) true Tryz.f5.params.toList args.toList ds p := hA0
 rw [Tryz.params5] at hA hval
 obtain ⟨v0, vs0, d0, ds0, p0, q0, hargs, rfl, rfl, h0, r0⟩ := trodAll_cons hA
 obtain ⟨rfl, rfl, rfl⟩ := trodAll_nil r0
 obtain rfl : args = #[v0] := by cases args; simp_all
 obtain ⟨rfl, rfl⟩ := trodVars_none hV
 have k0 := h0
 have lt0 := lt_of_trod h0
 obtain ⟨ab0, n0, c0, I0, Y0, gb0, ob0, bcs0, tb0, rfl, hc0, _, hn0, hy0, hi0⟩ := open_shs (hval 0 50 v0 rfl rfl) h0
 clear hA0 hval0
 refine (walk ab0 n0 c0 I0 Y0 gb0 ob0 bcs0 tb0 W hc0 hn0 hy0 hi0).mono fun e W' ⟨he, bel⟩ => ?_
 subst he
 exact ⟨_, rfl, _, _, _, [], _, [], hW', trodAll_mk1 (shut_bool Tryz.underlying4 _), (trodAll_cons_mk (Below.trod laidOut (by kernel_rfl) (of_decide_eq_true (by kernel_rfl)) k0 bel lt0) trodAll_mk0), rfl, bel.frame _, fun h => by cases h⟩
theorem over : Rows.welchNobodyRow.holds Tryz.pinned (OpenSpec.ofChange Rows.welchNobodySpec) :=
 OpenClaim.holds_of_wide 5 Tryz.f5 rfl rfl rfl rfl rfl rfl rfl ⟨rfl, rfl, rfl, rfl, rfl⟩ rfl rfl rfl rfl rfl (by kernel_rfl) Tryz.func5 (by kernel_rfl)
  (of_decide_eq_true (by kernel_rfl)) (by unfold Func.isWrapper; first | (rw [if_pos (by decide +kernel)]; kernel_rfl) | (rw [if_neg (by decide +kernel)]; exact ⟨rfl, rfl⟩))
  (fun os started H enc _ => lifted os started H enc)
end welchNobodyP
/-- for every list of shares: without a group nothing is told, and nothing fails; equations that are too many, or too long, are refused; no condition. -/
theorem welchNobody_holds : Rows.WelchNobodySaid := welchNobodyP.over
end Go.Proofs.YtdionnhelppliaaGreat
