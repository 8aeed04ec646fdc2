/- More laws of the walk of a region: cells of any kind, stores inside a row, slices' elements, closures, calls that fill rows. -/
import Derived.Test.YtchiiphmpkmloaaMixMore
namespace Go.Proofs.Ytchiiphmpkmloaa
open Go.RowKit
/-- A row with other cells from a place on. -/
def putL (cs : Array Value) : Nat → List Value → Array Value
 | _, [] => cs
 | off, v :: r => putL (cs.setIfInBounds off v) (off + 1) r
theorem putL_size : ∀ (l : List Value) (cs : Array Value) (off : Nat), (putL cs off l).size = cs.size
 | [], _, _ => rfl
 | v :: l, cs, off => by unfold putL; rw [putL_size l, Array.size_setIfInBounds]
theorem putL_get : ∀ (l : List Value) (cs : Array Value) (off i : Nat), off + l.length ≤ cs.size → (putL cs off l)[i]? = if off ≤ i ∧ i < off + l.length then l[i - off]? else cs[i]?
 | [], cs, off, i, _ => by rw [if_neg (by simp only [List.length_nil]; omega)]; rfl
 | v :: l, cs, off, i, h => by
  have h1 : off + 1 + l.length ≤ cs.size := by have := h; simp at this; omega
  unfold putL
  rw [putL_get l _ (off + 1) i (by rw [Array.size_setIfInBounds]; exact h1)]
  by_cases e : i = off
  ·subst e
   rw [if_neg (by omega), if_pos (by simp), Array.getElem?_setIfInBounds, if_pos rfl, if_pos (by omega), Nat.sub_self]; rfl
  ·by_cases e2 : off + 1 ≤ i ∧ i < off + 1 + l.length
   ·rw [if_pos e2, if_pos (by simp; omega), show i - off = (i - (off + 1)) + 1 by omega]; rfl
   ·rw [if_neg e2, if_neg (by simp; omega), Array.getElem?_setIfInBounds, if_neg (fun x => e x.symm)]
theorem Row.setCells {g : Nat} {t : TypeId} : ∀ (l : List Value) {w : World} {cs : Array Value} (off : Nat), Row w g cs t → Row (w.setCells g off l) g (putL cs off l) t
 | [], _, _, _, h => h
 | v :: l, w, cs, off, h => by
  unfold World.setCells putL
  exact Row.setCells l (off + 1) (h.setCell off v)
section
variable {P : Program} {olds : Olds} {p : Nat → Nat} {W : World} {F : Act → Ct → Prop} {n : Nat} {l : List Oper} {pl : List Sp} {a : Act} {ct : Ct} {o : Oper}
theorem only_setCells (g : Nat) : ∀ (l : List Value) (w : World) (off : Nat), Only g w (w.setCells g off l)
 | [], _, _ => ⟨rfl, rfl, rfl, rfl, fun _ _ => rfl⟩
 | v :: l, w, off => by
  unfold World.setCells
  have h1 := only_setCell w g off v
  have h2 := only_setCells g l (w.setCell ⟨g, off, none⟩ v) (off + 1)
  exact ⟨h2.os.trans h1.os, h2.tape.trans h1.tape, h2.output.trans h1.output, h2.size.trans h1.size, fun k hk => (h2.block k hk).trans (h1.block k hk)⟩
theorem there_of_row {w : World} {g : Nat} {cs : Array Value} {t : TypeId} (h : Row w g cs t) (off m : Nat) (hm : off + m ≤ cs.size) : w.there g off m := fun j hj => by
 refine ⟨?_, h.frozen _⟩
 rw [h.cell, Array.getElem?_eq_getElem (by omega)]; rfl
/-- A store inside a row. -/
theorem mx_putm (k : Nat) (ty : TypeId) (x y : Operand) (ho : o.op = .store ty x y) (off : Nat) {t : TypeId} {old : Array Value} (hct : ct k = some (t, old)) (hx : a.eval x = .pointer (some ⟨addrOf olds p k, off, none⟩)) (sub : Array Value) (hy : a.eval y = .agg sub)
  (hi : (P.info? ty).map (·.size) = some sub.size) (hold : off + sub.size ≤ old.size) (h1 : sub.all (·.oneCell') = true) (c : Array Value) (hc : putL old off sub.toList = c)
  (h : MX P olds p W F (n + 1) l pl (a.put o.dst undef) (ctSet ct k (t, c))) : MX P olds p W F n (o :: l) ((fun _ => undef, [], none, [(k, c)]) :: pl) a ct := by
 subst hc
 refine mx_fill k _ hct (fun w hr => ⟨w.setCells (addrOf olds p k) off sub.toList, ?_, Row.setCells _ _ hr, only_setCells _ _ _ _⟩) h
 unfold execOp
 simp only [ho, hx, hy, Instr.storeAt, Instr.sureAddr, Sem.run_bind, Sem.run_pure, Result.andThen_ok, run_storeVar_mid w _ off ty sub (there_of_row hr off _ hold) hi h1]
theorem run_store_val (w : World) (g i : Nat) (ty : TypeId) (v old : Value) (hv : v.cells = #[v]) (h1 : v.oneCell' = true) (hz : (P.info? ty).map (·.size) = some 1) (hc : w.cell? ⟨g, i, none⟩ = some old) (hf : w.frozen? ⟨g, i, none⟩ = false) :
  (storeVar ty ⟨g, i, none⟩ v).run P w = .ok () (w.setCell ⟨g, i, none⟩ v) := by
 have ht : w.there g i 1 := fun j hj => by
  obtain rfl : j = 0 := by omega
  exact ⟨by rw [Nat.add_zero, hc]; rfl, hf⟩
 have := run_storeVar_mid (P := P) w g i ty #[v] ht hz (by simp [h1])
 have e : (storeVar ty ⟨g, i, none⟩ v).run P w = (storeVar ty ⟨g, i, none⟩ (.agg #[v])).run P w := by
  unfold storeVar
  rw [hv]
  rfl
 rw [e, this]
 rfl
/-- A store of a value of one cell. -/
theorem mx_putv (k : Nat) (ty : TypeId) (x y : Operand) (ho : o.op = .store ty x y) (i : Nat) {t : TypeId} {old : Array Value} (hct : ct k = some (t, old)) (hx : a.eval x = .pointer (some ⟨addrOf olds p k, i, none⟩)) (v : Value) (hy : a.eval y = v)
  (hv : v.cells = #[v]) (h1 : v.oneCell' = true) (hz : (P.info? ty).map (·.size) = some 1) (hi : i < old.size) (c : Array Value) (hc : old.setIfInBounds i v = c)
  (h : MX P olds p W F (n + 1) l pl (a.put o.dst undef) (ctSet ct k (t, c))) : MX P olds p W F n (o :: l) ((fun _ => undef, [], none, [(k, c)]) :: pl) a ct := by
 subst hc
 refine mx_fill k _ hct (fun w hr => ⟨w.setCell ⟨addrOf olds p k, i, none⟩ v, ?_, hr.setCell _ _, only_setCell _ _ _ _⟩) h
 have hcell : w.cell? ⟨addrOf olds p k, i, none⟩ = some old[i] := (hr.cell i).trans (by simp [hi])
 unfold execOp
 simp only [ho, hx, hy, Instr.storeAt, Instr.sureAddr, Sem.run_bind, Sem.run_pure, Result.andThen_ok, run_store_val w _ i ty v _ hv h1 hz hcell (hr.frozen i)]
theorem mx_boxv (t : TypeId) (x : Operand) (ho : o.op = .box t x) (v : Value) (hx : a.eval x = v) (hv : v.cells = #[v])
  (h : MX P olds p W F (n + 1) l pl (a.put o.dst (.pointer (some ⟨p n, 0, none⟩))) (ctSet ct (2 * n + 1) (t, #[v]))) : MX P olds p W F n (o :: l) ((fun q => .pointer (some ⟨q n, 0, none⟩), [], some (t, #[v]), []) :: pl) a ct :=
 mx_made (fun g => .pointer (some ⟨g, 0, none⟩)) t #[v] (fun w => by unfold execOp; simp only [ho, hx, Instr.box, Sem.run_bind, newVar, hv, newRow]; rfl) h
theorem mx_newv (t : TypeId) (ho : o.op = .alloc t) (v : Value) (hz : ∀ w, (zeroValue t).run P w = .ok v w) (hv : v.cells = #[v])
  (h : MX P olds p W F (n + 1) l pl (a.put o.dst (.pointer (some ⟨p n, 0, none⟩))) (ctSet ct (2 * n + 1) (t, #[v]))) : MX P olds p W F n (o :: l) ((fun q => .pointer (some ⟨q n, 0, none⟩), [], some (t, #[v]), []) :: pl) a ct :=
 mx_made (fun g => .pointer (some ⟨g, 0, none⟩)) t #[v] (fun w => by unfold execOp; simp only [ho, Instr.alloc, Sem.run_bind, hz, Result.andThen_ok, newVar, hv, newRow]; rfl) h
/-- The place of an element: of an array inside a row, of a slice. -/
theorem exec_index_g {ρ : Operand → Value} (t : TypeId) (x y : Operand) (ho : o.op = .indexAddr t x y) (g off : Nat) (hx : ρ x = .pointer (some ⟨g, off, none⟩)) (i len : Nat) (hy : ρ y = .int .i64 i) (hi : i < len) (e : TypeId) (hu : P.underlying t = some (.array len e))
  (z : Nat) (hz : ∀ w, (sizeOf e).run P w = .ok z w) (w : World) : (execOp ρ o).run P w = .ok (.value (.pointer (some ⟨g, off + i * z, none⟩))) w := by
 unfold execOp
 simp [ho, hx, hy, Instr.indexAt, Instr.sureAddr, Sem.run_bind, run_underlying hu, hz, go_sem, asIntOf, Addr.add_mid, hi]
theorem exec_index_s {ρ : Operand → Value} (t : TypeId) (x y : Operand) (ho : o.op = .indexAddr t x y) (g off len cap : Nat) (hx : ρ x = .slice (some ⟨g, off, none⟩) len cap) (i : Nat) (hy : ρ y = .int .i64 i) (hi : i < len) (e : TypeId) (hu : P.underlying t = some (.slice e))
  (z : Nat) (hz : ∀ w, (sizeOf e).run P w = .ok z w) (w : World) : (execOp ρ o).run P w = .ok (.value (.pointer (some ⟨g, off + i * z, none⟩))) w := by
 unfold execOp
 simp [ho, hx, hy, Instr.indexAt, Sem.run_bind, run_underlying hu, hz, go_sem, asIntOf, Addr.add_mid, hi]
theorem m_x {t : TypeId} {x y : Operand} {g off len cap : Nat} (i : Nat) (hi : i < len) {e : TypeId} (hu : P.underlying t = some (.slice e)) {z : Nat} (hz : ∀ w, (sizeOf e).run P w = .ok z w) (h : MX P olds p W F (n + 1) l pl (a.put o.dst (.pointer (some ⟨g, off + i * z, none⟩))) ct) (ho : o.op = .indexAddr t x y := by exact rfl) (hx : a.eval x = .slice (some ⟨g, off, none⟩) len cap := by exact rfl) (hy : a.eval y = .int .i64 i := by exact rfl) : MX P olds p W F n (o :: l) ((fun _ => .pointer (some ⟨g, off + i * z, none⟩), [], none, []) :: pl) a ct := mx_val _ (exec_index_s t x y ho g off len cap hx i hy hi e hu z hz) h
theorem m_X {t : TypeId} {x y : Operand} {g off len cap : Nat} (i : Nat) (hi : i < len) {e : TypeId} (hu : P.underlying t = some (.slice e)) {z : Nat} (hz : ∀ w, (sizeOf e).run P w = .ok z w) {B : Prop} (b : B) (ho : o.op = .indexAddr t x y := by exact rfl) (hx : a.eval x = .slice (some ⟨g, off, none⟩) len cap := by exact rfl) (hy : a.eval y = .int .i64 i := by exact rfl) (h : B → MX P olds p W F (n + 1) l pl (a.put o.dst (.pointer (some ⟨g, off + i * z, none⟩))) ct := by exact fun b => m_W b) : MX P olds p W F n (o :: l) ((fun _ => .pointer (some ⟨g, off + i * z, none⟩), [], none, []) :: pl) a ct := m_x i hi hu hz (h b) ho hx hy
theorem q_x {ops : Array Oper} {Q : Act → Prop} {rest : List Oper} {t : TypeId} {x y : Operand} {g off len cap : Nat} (i : Nat) (hi : i < len) {e : TypeId} (hu : P.underlying t = some (.slice e)) {z : Nat} (hz : ∀ w, (sizeOf e).run P w = .ok z w) (h : QW P ops W Q rest (a.put o.dst (.pointer (some ⟨g, off + i * z, none⟩)))) (hw : Region.wanted o (yielded ops a.tmps) = true := by rfl) (ho : o.op = .indexAddr t x y := by exact rfl) (hx : a.eval x = .slice (some ⟨g, off, none⟩) len cap := by exact rfl) (hy : a.eval y = .int .i64 i := by exact rfl) : QW P ops W Q (o :: rest) a := qw_value hw _ (exec_index_s t x y ho g off len cap hx i hy hi e hu z hz) h
theorem exec_func {ρ : Operand → Value} (f : FuncId) (caps : Array Operand) (ho : o.op = .makeFunc (.func f) #[] caps) (vs : Array Value) (hv : caps.toList.map ρ = vs.toList) (w : World) : (execOp ρ o).run P w = .ok (.value (.func (.func f) #[] vs)) w := by
 have hv' : caps.map ρ = vs := by apply Array.toList_inj.1; rw [Array.toList_map]; exact hv
 unfold execOp
 simp [ho, Instr.makeFunc, hv']
/-- A call of a closure that fills two rows. -/
theorem mx_callC2 {fn : Func} (f : FuncId) (t : Tmp) (args : Array Operand) (ts : Array TypeId) (ho : o.op = .call { callee := .value (.tmp t), args := args, argTypes := ts }) (caps : Array Value) (hcl : a.eval (.tmp t) = .func (.func f) #[] caps)
  (hf : P.funcs[f]? = some fn) (hb : (fn.name == "runtime.NumGoroutine" || fn.body.isNone) = false) (vs : Array Value) (hv' : args.toList.map a.eval = vs.toList) (v : Value) (k1 k2 : Nat) (hne : k1 ≠ k2) {t1 t2 : TypeId} {o1 o2 : Array Value} (c1 c2 : Array Value)
  (h1 : ct k1 = some (t1, o1)) (h2 : ct k2 = some (t2, o2))
  (hc : ∀ w, Kept (olds.map (·.1)) W w → Row w (addrOf olds p k1) o1 t1 → Row w (addrOf olds p k2) o2 t2 → Calls P f (vs ++ caps) w fun e w' => e = .returned v ∧ Row w' (addrOf olds p k1) c1 t1 ∧ Row w' (addrOf olds p k2) c2 t2 ∧ Kept [addrOf olds p k1, addrOf olds p k2] w w')
  (h : MX P olds p W F (n + 1) l pl (a.put o.dst v) (ctSet (ctSet ct k1 (t1, c1)) k2 (t2, c2))) : MX P olds p W F n (o :: l) ((fun _ => v, [], none, [(k1, c1), (k2, c2)]) :: pl) a ct := by
 refine ⟨⟨⟨.inl ⟨v, rfl⟩, fun x hx => ?_, fun w hk hrw => ?_⟩, ?_⟩⟩
 ·rcases List.mem_cons.1 hx with rfl | hx
  ·exact ⟨_, h1⟩
  ·obtain rfl : x = (k2, c2) := List.mem_singleton.1 hx
   exact ⟨_, h2⟩
 ·have hv : args.map a.eval = vs := by apply Array.toList_inj.1; rw [Array.toList_map]; exact hv'
  have hr := run_callFunc_body (P := P) hf hb (vs ++ caps) w
  have hd : (execOp a.eval o).run P w = .ok (.enter f (vs ++ caps)) w := by
   unfold execOp
   simp only [ho, resolve, hv, hcl]
   simp [Deferred.ofValue, invoke, hr]
  rw [hd]
  refine ⟨rfl, (hc w hk (hrw k1 (List.mem_append_right _ (by simp)) _ h1) (hrw k2 (List.mem_append_right _ (by simp)) _ h2)).mono fun e w' ⟨he, r1, r2, hkk⟩ => ⟨v, he, hkk.os, hkk.tape, hkk.output, hkk.size, fun b hlt hb' => hkk.block b hlt ?_, fun x hx y hy => ?_, .inl ⟨rfl, rfl⟩⟩⟩
  ·have b1 := hb' (k1, c1) (by simp)
   have b2 := hb' (k2, c2) (by simp)
   simp [b1, b2]
  ·rcases List.mem_cons.1 hx with rfl | hx
   ·obtain rfl : (t1, o1) = y := Option.some.inj (h1.symm.trans hy)
    exact r1
   ·obtain rfl : x = (k2, c2) := List.mem_singleton.1 hx
    obtain rfl : (t2, o2) = y := Option.some.inj (h2.symm.trans hy)
    exact r2
 ·have e : spC n ((fun _ => v, [], none, [(k1, c1), (k2, c2)]) : Sp) ct = ctSet (ctSet ct k1 (t1, c1)) k2 (t2, c2) := by
   funext j
   unfold ctSet
   by_cases e2 : j = k2
   ·subst e2
    rw [if_pos rfl]
    show (match fills [(k1, c1), (j, c2)] j with | some c => (ct j).map (fun (y : TypeId × Array Value) => (y.1, c)) | none => ct j) = _
    rw [show fills [(k1, c1), (j, c2)] j = some c2 by simp [fills, hne], h2]; rfl
   ·rw [if_neg e2]
    by_cases e1 : j = k1
    ·subst e1
     rw [if_pos rfl]
     show (match fills [(j, c1), (k2, c2)] j with | some c => (ct j).map (fun (y : TypeId × Array Value) => (y.1, c)) | none => ct j) = _
     rw [show fills [(j, c1), (k2, c2)] j = some c1 by simp [fills], h1]; rfl
    ·rw [if_neg e1]
     exact spC_other (s := ((fun _ => v, [], none, [(k1, c1), (k2, c2)]) : Sp)) ct (by simp [hits, e1, e2])
  rw [e]; exact h.out
end
end Go.Proofs.Ytchiiphmpkmloaa
