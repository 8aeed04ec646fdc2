import Derived.Test.YtgdalihjpemjiaaGreatSB
import Derived.Test.YtgdalihjpemjiaaGreatQA
import Derived.Test.YtgdalihjpemjiaaGreatPZ
set_option maxRecDepth 100000
set_option maxHeartbeats 2000000
namespace Go.Proofs.YtgdalihjpemjiaaGreat
set_option linter.unusedSectionVars false
section
variable {q : Nat} [NeZero q]
theorem pmul_co (f g : List (Fin q)) (k : Nat) : pco (pmul f g) k = psm (fun i => pco f i * pco g (k - i)) (k + 1) := by
 rw [pco_pmul, pco_pcv]
 have h1 : psm (fun i => if i ≤ k then pco f i * pco g (k - i) else 0) (max f.length (k + 1)) = psm (fun i => if i ≤ k then pco f i * pco g (k - i) else 0) f.length := psm_more _ _ _ (by omega) fun i hi _ => by
  show (if i ≤ k then _ else _) = (0 : Fin q)
  split
  ·rw [pco_out f i hi]; grind
  ·rfl
 have h2 : psm (fun i => if i ≤ k then pco f i * pco g (k - i) else 0) (max f.length (k + 1)) = psm (fun i => if i ≤ k then pco f i * pco g (k - i) else 0) (k + 1) := psm_more _ _ _ (by omega) fun i hi _ => by
  show (if i ≤ k then _ else _) = (0 : Fin q)
  exact if_neg (by omega)
 rw [← h1, h2]
 exact psm_congr _ _ _ fun i hi => by
  show (if i ≤ k then _ else _) = _
  rw [if_pos (by omega)]
theorem plg_lin (iv : Fin q → Fin q) (xs : Nat → Fin q) (y : Fin q) (i : Nat) : ∀ k j, pco (plg iv xs y i k) j = y * pco (plg iv xs 1 i k) j
 | 0, 0 => by
  show y = y * 1
  grind
 | 0, j + 1 => by
  show (0 : Fin q) = y * 0
  grind
 | k + 1, j => by
  show pco (if k = i then plg iv xs y i k else pmul (plg iv xs y i k) _) j = y * pco (if k = i then plg iv xs 1 i k else pmul (plg iv xs 1 i k) _) j
  by_cases h : k = i
  ·rw [if_pos h, if_pos h]
   exact plg_lin iv xs y i k j
  ·rw [if_neg h, if_neg h, pmul_co, pmul_co, ← psm_mul]
   exact psm_congr _ _ _ fun a _ => by
    show pco (plg iv xs y i k) a * _ = y * (pco (plg iv xs 1 i k) a * _)
    rw [plg_lin iv xs y i k a]
    grind
theorem pthr_co (iv : Fin q → Fin q) (xs ys : Nat → Fin q) (n j : Nat) : ∀ m, pco (pthr iv xs ys n m) j = psm (fun i => ys i * pco (plg iv xs 1 i n) j) m
 | 0 => rfl
 | m + 1 => by
  show pco (psum _ _) j = psm _ m + ys m * _
  rw [pco_psum, pthr_co iv xs ys n j m, plg_lin]
end
def smA (f : Nat → Nat) : Nat → Nat
 | 0 => 0
 | n + 1 => smA f n + f n
theorem pow_mods (a b P : Nat) : (a % P) ^ b % P = a ^ b % P := (Nat.pow_mod a b P).symm
theorem prd_pow {P : Nat} (G : Nat) (a b : Nat → Nat) : ∀ n, prd (fun j => (G ^ a j % P) ^ b j) n % P = G ^ smA (fun j => a j * b j) n % P
 | 0 => rfl
 | n + 1 => by
  show prd (fun j => (G ^ a j % P) ^ b j) n * (G ^ a n % P) ^ b n % P = G ^ (smA (fun j => a j * b j) n + a n * b n) % P
  rw [Nat.mul_mod, prd_pow G a b n, pow_mods, ← Nat.mul_mod, ← Nat.pow_mul, ← Nat.pow_add]
section
variable {q : Nat} [NeZero q]
theorem smA_fi (f : Nat → Nat) : ∀ n, (fi (smA f n) : Fin q) = psm (fun j => fi (f j)) n
 | 0 => fi_zero
 | n + 1 => by
  show (fi (smA f n + f n) : Fin q) = psm _ n + fi (f n)
  rw [fi_add, smA_fi f n]
theorem fi_pow (x : Nat) : ∀ j, (fi (x ^ j) : Fin q) = ppw (fi x) j
 | 0 => fi_one
 | j + 1 => by
  show (fi (x ^ j * x) : Fin q) = _
  rw [fi_mul, fi_pow x j]
  rfl
theorem co_at {P G : Nat} (h2 : 2 ≤ P) (h : G ^ q % P = 1) (f : Nat → Nat) (n i : Nat) : prd (fun j => (G ^ f j % P) ^ (i ^ j)) n % P = G ^ (pev (fi i) (fl n f : List (Fin q))).val % P := by
 rw [prd_pow, pow_by h2 h]
 have e : smA (fun j => f j * i ^ j) n % q = (pev (fi i) (fl n f : List (Fin q))).val := by
  rw [← fi_val, smA_fi]
  congr 1
  rw [pev_sum]
  rw [fl_length]
  exact psm_congr _ _ _ fun j hj => by
   show (fi (f j * i ^ j) : Fin q) = _
   rw [fi_mul, fi_pow, fl_co _ _ _ hj]
 rw [e]
theorem co_holds {P G : Nat} (hP : IsP P) (hq : IsP q) (h0 : G ≠ 0) (h1 : G ≠ 1) (hlt : G < P) (h : G ^ q % P = 1) (f : Nat → Nat) (n i y : Nat) (hy : y < q) : G ^ y % P = prd (fun j => (G ^ f j % P) ^ (i ^ j)) n % P ↔ y = (pev (fi i) (fl n f : List (Fin q))).val := by
 rw [co_at hP.1 h, gr_order hP hq h0 h1 hlt h, Nat.mod_eq_of_lt hy, Nat.mod_eq_of_lt (pev (fi i) (fl n f : List (Fin q))).isLt]
theorem co_from {P G : Nat} (h2 : 2 ≤ P) (h : G ^ q % P = 1) (w ys : Nat → Nat) (n : Nat) (c : Fin q) (hc : c = psm (fun i => (fi (w i) : Fin q) * fi (ys i)) (n + 1)) :
  (G ^ ys 0 % P) ^ w 0 % P * (G ^ (smA (fun i => w (i + 1) * ys (i + 1)) n % q) % P) % P = G ^ c.val % P := by
 rw [pow_mods, ← Nat.pow_mul, ← Nat.mul_mod, ← Nat.pow_add, pow_by h2 h]
 have e : (ys 0 * w 0 + smA (fun i => w (i + 1) * ys (i + 1)) n % q) % q = c.val := by
  rw [← fi_val, fi_add, fi_mod, smA_fi, hc, psm_first, fi_mul]
  congr 1
  have : psm (fun j => (fi (w (j + 1) * ys (j + 1)) : Fin q)) n = psm (fun i => (fi (w (i + 1)) : Fin q) * fi (ys (i + 1))) n := psm_congr _ _ _ fun i _ => fi_mul _ _
  rw [this]
  grind
 rw [e]
end
section
variable {Q : Nat} [NeZero Q]
theorem wt_co (q : FdQ Q) (I : Nat → Nat) (n : Nat) (hd : ∀ i j, i < n → j < n → i ≠ j → (fi (I i) : Fin Q) ≠ fi (I j)) (k j : Nat) (hk : k < n) : pco (wtP I n k : List (Fin Q)) j = pco (plg ivF (fun i => (fi (I i) : Fin Q)) 1 k n) j := by
 unfold wtP
 rw [tTh_is q.pr ivF (ivF_is q) _ _ n hd, pthr_co]
 have h := psm_one (fun _ => (0 : Fin Q)) (fun i => (fi (onK k i) : Fin Q) * pco (plg ivF (fun i => (fi (I i) : Fin Q)) 1 i n) j) k (pco (plg ivF (fun i => (fi (I i) : Fin Q)) 1 k n) j) (by
  show (fi (if k = k then 1 else 0) : Fin Q) * _ = 0 + _
  rw [if_pos rfl, fi_one]
  grind) (fun i hi => by
  show (fi (if i = k then 1 else 0) : Fin Q) * _ = 0
  rw [if_neg hi, fi_zero]
  grind) n hk
 rw [h, psm_zero _ _ (fun _ _ => rfl)]
 grind
theorem wt_of (q : FdQ Q) (I : Nat → Nat) (n : Nat) (hd : ∀ i j, i < n → j < n → i ≠ j → (fi (I i) : Fin Q) ≠ fi (I j)) (L : List (Fin Q)) (hl : L.length ≤ n) (j : Nat) : pco L j = psm (fun i => pco (wtP I n i : List (Fin Q)) j * pev (fi (I i)) L) n := by
 rw [← pco_ptrim, pthr_unique q.pr ivF (ivF_is q) (fun i => (fi (I i) : Fin Q)) (fun i => pev (fi (I i)) L) n hd L hl (fun _ _ => rfl), pthr_co]
 exact psm_congr _ _ _ fun i hi => by
  show pev (fi (I i)) L * pco (plg ivF _ 1 i n) j = pco (wtP I n i) j * pev (fi (I i)) L
  rw [wt_co q I n hd i j hi]
  grind
end
open Go.RowKit
set_option linter.unusedVariables false
set_option linter.unusedSimpArgs false
section
variable {P : Program} {ops : Array Oper} {Q : Exit → Act → World → Prop} {rest : List Oper} {o : Oper} {a : Act} {w : World}
theorem pw_callCE {fn : Func} (hw : Region.wanted o (yielded ops a.tmps) = true) (f : FuncId) (t : Tmp) (args : Array Operand) (ts : Array TypeId)
  (ho : o.op = .call { callee := .value (.tmp t), args := args, argTypes := ts }) (caps : Array Value) (hcl : a.eval (.tmp t) = .func (.func f) #[] caps) (hf : P.funcs[f]? = some fn) (hb : (fn.name == "runtime.NumGoroutine" || fn.body.isNone) = false)
  (vs : Array Value) (hv' : args.toList.map a.eval = vs.toList) {R : Ending → World → Prop} (hc : Calls P f (vs ++ caps) w R)
  (h : ∀ e w', R e w' → ∃ v, e = .returned v ∧ PW P ops Q rest (a.put o.dst v) w') : PW P ops Q (o :: rest) a w := by
 refine ⟨?_⟩
 unfold wpList
 rw [if_pos hw]
 left
 have hv : args.map a.eval = vs := by apply Array.toList_inj.1; rw [Array.toList_map]; exact hv'
 have hr := run_callFunc_body (P := P) hf hb (vs ++ caps) w
 have hd : (execOp a.eval o).run P w = .ok (.enter f (vs ++ caps)) w := by
  unfold execOp
  simp only [ho, resolve, hv, hcl]
  simp [Deferred.ofValue, invoke, hr]
 unfold Oper.wp
 rw [hd, Oper.upon_enter]
 exact hc.mono fun e w' hR => by
  obtain ⟨v, he, hp⟩ := h e w' hR
  subst he
  exact hp.out
theorem pw_newv (hw : Region.wanted o (yielded ops a.tmps) = true) (t : TypeId) (ho : o.op = .alloc t) (v : Value) (hz : ∀ w, (zeroValue t).run P w = .ok v w) (hv : v.cells = #[v])
  (h : ∀ g w', w.heap.size ≤ g → Row w' g #[v] t → Kept [] w w' → PW P ops Q rest (a.put o.dst (.pointer (some ⟨g, 0, none⟩))) w') : PW P ops Q (o :: rest) a w :=
 pw_made hw (fun g => .pointer (some ⟨g, 0, none⟩)) t #[v] (by unfold execOp; simp only [ho, Instr.alloc, Sem.run_bind, hz, Result.andThen_ok, newVar, hv, newRow]; rfl) h
theorem pw_lit0 (hw : Region.wanted o (yielded ops a.tmps) = true) (t e : TypeId) (ho : o.op = .buildSlice t 0 #[]) (ie : TypeInfo) (hu : P.underlying t = some (.slice e)) (hie : P.info? e = some ie)
  (h : ∀ g w', w.heap.size ≤ g → Row w' g #[] e → Kept [] w w' → PW P ops Q rest (a.put o.dst (.slice (some ⟨g, 0, none⟩) 0 0)) w') : PW P ops Q (o :: rest) a w := by
 refine pw_made hw (fun g => .slice (some ⟨g, 0, none⟩) 0 0) e #[] ?_ h
 have hr : (Instr.buildSlice t 0 #[]).run P w = .ok (.slice (some ⟨w.heap.size, 0, none⟩) 0 0) (w.alloc (.cells #[] e)) := by
  simp [Instr.buildSlice, run_underlying hu, sizeOf, typeInfo, hie, newRow, Instr.fill]
  congr 2
  exact Array.eq_empty_of_size_eq_zero (by simp)
 unfold execOp
 simp only [ho, Sem.run_bind];simp only [List.map_toArray, List.map_nil, hr]
 rfl
theorem y_rests (t : TypeId) (x lo : Operand) {ρ : Operand → Value} (ho : o.op = .slice t x (some lo) none none) (hu : P.underlying t = some (.slice (P.elem t))) (z : Nat) (hz : ∀ w, (sizeOf (P.elem t)).run P w = .ok z w) (g off n c m : Nat) (hx : ρ x = .slice (some ⟨g, off, none⟩) n c) (hh : ρ lo = .int .i64 m) (hm : m ≤ n) (hmc : n ≤ c) (w : World) :
  (execOp ρ o).run P w = .ok (.value (.slice (some ⟨g, if c = m then off else off + m * z, none⟩) (n - m) (c - m))) w := by
 have h1 : (Instr.sliceAt t (.slice (some ⟨g, off, none⟩) n c) (some (.int .i64 m)) none none).run P w = .ok (.slice (some ⟨g, if c = m then off else off + m * z, none⟩) (n - m) (c - m)) w := by
  rw [run_sliceAt_slice w t _ _ _ _ hu, run_slice_l w t _ n c hu .i64 m (by omega) (by omega), hz, Result.andThen_ok, Int.toNat_natCast]
  unfold sliced
  by_cases e : c = m
  ·rw [if_pos e, if_pos e]
  ·rw [if_neg e, if_neg e, Option.map_some]
   rw [show (⟨g, off, none⟩ : Addr).add (m * z) = ⟨g, off + m * z, none⟩ by unfold Addr.add; split <;> simp <;> omega]
 unfold execOp
 simp only [ho, hx, hh, Option.map_some, Option.map_none, Sem.run_bind, h1, Result.andThen_ok]
 rfl
end
theorem nsC_app (n : Nat) (f : Nat → Nat) : ∀ m, (nsC n f).toList ++ (nsC m (fun i => f (n + i))).toList = (nsC (n + m) f).toList
 | 0 => by
  have h : (nsC 0 (fun i => f (n + i))).toList = [] := by
   apply List.eq_nil_of_length_eq_zero
   rw [Array.length_toList, nsC_size]
  rw [h, List.append_nil, Nat.add_zero]
 | m + 1 => by
  rw [← nsC_snoc m, ← List.append_assoc, nsC_app n f m, nsC_snoc, Nat.add_assoc]
theorem nsC_all (n : Nat) (f : Nat → Nat) : (nsC n f).all (·.oneCell') = true := by
 rw [Array.all_eq_true]
 intro i hi
 have h := nsC_get n f i (by rw [nsC_size] at hi; exact hi)
 rw [Array.getElem?_eq_getElem hi] at h
 rw [Option.some.inj h]
 rfl
theorem own_pl {v : Value} {g s x : Nat} (hp : v.ownBlock = some g ∨ v.ownBlock = some s) (h1 : x ≠ g) (h2 : x < s) : v.ownBlock ≠ some x := fun e => by
 rcases hp with h | h <;> rw [h] at e <;> cases e
 ·exact h1 rfl
 ·exact Nat.lt_irrefl _ h2
theorem ownN_row {w : World} {base g m N : Nat} {f : Nat → Nat} (r : Row w g (nsC N f) 40) (hb : base ≤ g) (hm : m ≤ N) (hN : N ≤ 1000) : OwnN w base (.slice (some ⟨g, 0, none⟩) m N) m f := by
 refine ⟨by rw [Array.length_toList, nsC_size]; omega, .inr ⟨g, N, _, rfl, hb, r, hm, by unfold maxLen; omega, by rw [nsC_size]; omega, ?_⟩⟩
 have h := nsC_app m f (N - m)
 rw [show m + (N - m) = N by omega] at h
 rw [← h]
 apply List.take_left'
 rw [Array.length_toList, nsC_size]
 omega
theorem run_app0 {P : Program} (w : World) (base : Nat) (t tn ty e : TypeId) (i : TypeInfo) (z : Value) (size bytes : Nat) (kn : IntKind) (ht : P.underlying t = some (.slice e)) (htn : P.underlying tn = some (.int kn)) (hi : P.info? e = some i) (hz : i.zero = some z)
  (hsize : i.size = size) (hby : i.bytes = bytes) (hzs : z.cells.size = size) (hsz : 0 < size) (hz1 : ∀ m, ∀ u ∈ (Builtin.zeroCells z.cells m).toList, u.oneCell' = true)
  (g cap n : Nat) (xs : List Value) (hown : w.ownsRow base e size (.slice (some ⟨g, 0, none⟩) n cap) n xs) (m : Nat)
  (h63 : n + m ≤ maxLen) (hbytes : (n + m) * bytes ≤ 140737488355328) (hbase : base ≤ w.heap.size) :
  ∃ v' w', (Builtin.append_ #[t, tn] ty #[.slice (some ⟨g, 0, none⟩) n cap, .int .i64 m]).run P w = .ok v' w' ∧ w'.ownsRow base e size v' (n + m) (xs ++ (Builtin.zeroCells z.cells m).toList) ∧ w.grownBy w' (some g) ∧ (v'.ownBlock = some g ∨ v'.ownBlock = some w.heap.size) := by
 subst hsize
 subst hby
 have hsmall : n + m ≤ 9223372036854775807 := by simp only [maxLen] at h63; omega
 have hw : IntKind.i64.wrap (m : Int) = m := by rw [IntKind.wrap_i64]; omega
 have hneg : ¬ ((m : Int) < 0) := by omega
 have hmb : m * i.bytes ≤ 140737488355328 := Nat.le_trans (Nat.mul_le_mul_right _ (by omega)) hbytes
 have h48i : ¬ (281474976710656 < (m : Int) * (i.bytes : Int)) := by
  rw [← Int.natCast_mul]
  omega
 generalize hN : (Builtin.zeroCells z.cells m) = N
 have hl : N.toList.length = m * i.size := by rw [Array.length_toList, ← hN, size_zeroCells, hzs]
 have h1 : ∀ u ∈ N.toList, u.oneCell' = true := hN ▸ hz1 m
 have hlen : (xs ++ N.toList).length = (n + m) * i.size := by rw [List.length_append, hown.1, hl, Nat.add_mul]
 have hN0 : m = 0 → N = #[] := fun h => by rw [← hN, h]; simp [Builtin.zeroCells]
 rcases hown.2 with ⟨h0, _⟩ | ⟨g', cap', cur, he, hbg, hg, hnc, hcm, hcs, htake⟩
 ·cases h0
 ·obtain ⟨rfl, rfl⟩ : g = g' ∧ cap = cap' := by
   simp only [Value.slice.injEq, Option.some.injEq, Addr.mk.injEq, and_true, true_and] at he
   exact he
  by_cases hroom : n + m ≤ cap
  ·have hfit : n * i.size + N.toList.length ≤ cur.size := by rw [hl, hcs, ← Nat.add_mul]; exact Nat.mul_le_mul_right _ hroom
   have hst := run_storeCells_at P g (n * i.size) e N.toList 0 cur w hg (by simpa using hfit) h1
   simp only [Nat.add_zero] at hst
   have hr : (Builtin.append_ #[t, tn] ty #[.slice (some ⟨g, 0, none⟩) n cap, .int .i64 m]).run P w = .ok (.slice (some ⟨g, 0, none⟩) (n + m) cap) (w.setRow g (cur.toList.take (n * i.size) ++ N.toList ++ cur.toList.drop (n * i.size + N.toList.length)).toArray) := by
    by_cases hm : m = 0
    ·have hns : m * i.size = 0 := by rw [hm, Nat.zero_mul]
     have hN1 := hN0 hm
     rw [hN1] at hst ⊢
     have hst' : (storeCells { block := g, off := n * i.size } []).run P w = .ok () (w.setRow g (cur.toList.take (n * i.size) ++ #[].toList ++ cur.toList.drop (n * i.size + (#[] : Array Value).toList.length)).toArray) := hst
     simp only [Array.toList_empty] at hst' ⊢
     simp [Builtin.append_, run_underlying ht, run_underlying htn, sizeOf, typeInfo, hi, asInt, asIntOf, hw, hneg, h48i, hns, hroom, Addr.add_lit, hst']
    ·have hns : ¬ (m * i.size = 0) := Nat.mul_ne_zero hm (by omega)
     simp [Builtin.append_, run_underlying ht, run_underlying htn, sizeOf, typeInfo, zeroValue, hi, hz, asInt, asIntOf, hw, hm, hneg, hns, h48i, hroom, hN, Addr.add_lit, hst]
   refine ⟨_, _, hr, ⟨hlen, .inr ⟨g, cap, _, rfl, hbg, setRow_heap w g cur _ e _ hg, hroom, hcm, ?_, ?_⟩⟩, ⟨rfl, rfl, rfl, by simp, fun k _ hk => setRow_other w g k _ (fun e => hk (by rw [e]))⟩, .inl rfl⟩
   ·simp only [List.size_toArray, List.length_append, List.length_take, List.length_drop, Array.length_toList]
    rw [Array.length_toList] at hfit
    omega
   ·rw [htake, ← hlen]
    exact List.take_left
  ·have hm : m ≠ 0 := by omega
   have hns : ¬ (m * i.size = 0) := Nat.mul_ne_zero hm (by omega)
   have holds : ∀ j u, xs[j]? = some u → w.cell? ((⟨g, 0, none⟩ : Addr).add j) = some u := hown.cells (g := g) rfl
   have hfo := run_firstCells_some (P := P) w.drew i.size n ⟨g, 0, none⟩ n cap xs hown.1 (by simpa using holds)
   have h63' : ¬ (9223372036854775807 < ((n : Int) + (m : Int))) := by omega
   have h48' : ¬ (281474976710656 < Builtin.nextslicecap (n + m) cap * i.bytes) := by have := growslice_fits (old := cap) (by omega) hbytes; omega
   have hge := grownCap_ge w (n + m) cap e
   have hcm' : grownCap w (n + m) cap e ≤ maxLen := grownCap_le_maxLen w (n + m) cap e h63
   have hr : (Builtin.append_ #[t, tn] ty #[.slice (some ⟨g, 0, none⟩) n cap, .int .i64 m]).run P w = .ok (.slice (some ⟨w.heap.size, 0, none⟩) (n + m) (grownCap w (n + m) cap e))
     (w.drew.alloc (.cells (xs.toArray ++ N ++ Builtin.zeroCells z.cells (grownCap w (n + m) cap e - (n + m))) e)) := by
    simp [Builtin.append_, run_underlying ht, run_underlying htn, sizeOf, typeInfo, zeroValue, hi, hz, asInt, asIntOf, hw, hm, hneg, hns, h48i, hroom, h63', h48', Question.forced, hfo, newRow, grownCap, hN]
   refine ⟨_, _, hr, ⟨hlen, .inr ⟨w.heap.size, _, _, rfl, hbase, heap_alloc_new w.drew _, hge, hcm', ?_, ?_⟩⟩, ⟨rfl, rfl, rfl, by simp, fun k hk _ => _root_.Go.heap_alloc_old w.drew _ hk⟩, .inr rfl⟩
   ·have hN2 : N.size = m * i.size := by rw [← Array.length_toList]; exact hl
    simp only [Array.size_append, List.size_toArray, size_zeroCells, hzs, hown.1, hN2, ← Nat.add_mul]
    congr 1
    omega
   ·simp only [Array.toList_append, List.append_assoc]
    rw [← List.append_assoc, ← hlen]
    exact List.take_left
section
variable {ops : Array Oper} {Q : Exit → Act → World → Prop} {rest : List Oper} {o : Oper} {a : Act} {w : World}
theorem pw_app0 (hw : Region.wanted o (yielded ops a.tmps) = true) (s x : Operand) (ho : o.op = .call { callee := .builtin .append, args := #[s, x], argTypes := #[22, 3] })
  (base g cap n : Nat) (f : Nat → Nat) (hs : a.eval s = .slice (some ⟨g, 0, none⟩) n cap) (hown : OwnN w base (.slice (some ⟨g, 0, none⟩) n cap) n f) (m : Nat) (hx : a.eval x = .int .i64 m) (hf : ∀ i, i < m → f (n + i) = 0) (hn : n + m ≤ 1000) (hbase : base ≤ w.heap.size)
  (h : ∀ v' w', OwnN w' base v' (n + m) f → Kept [g] w w' → (v'.ownBlock = some g ∨ v'.ownBlock = some w.heap.size) → PW Tryz.prog ops Q rest (a.put o.dst v') w') : PW Tryz.prog ops Q (o :: rest) a w := by
 obtain ⟨i, hi, hz, hsz, hby⟩ := info_nat'
 have hzc : ∀ m, Builtin.zeroCells (Value.agg #[.int .u64 0, .int .u64 0, .int .u64 0, .int .u64 0]).cells m = nsC m (fun _ => 0) := fun m => made_nats m
 obtain ⟨v', w', hr, h2, h3, h4⟩ := run_app0 (P := Tryz.prog) w base 22 3 o.type 40 i _ 4 32 .i64 Tryz.underlying22 Tryz.underlying3 hi hz hsz hby rfl (by decide) (fun m u hu => cells_one (nsC_all m (fun _ => 0)) u (by rw [← hzc]; exact hu)) g cap n _ hown m (by unfold maxLen; omega) (by omega) hbase
 rw [hzc, nsC_congr m (fun _ => 0) (fun i => f (n + i)) (fun i hi => (hf i hi).symm), nsC_app] at h2
 refine pw_run hw v' w' ?_ (h v' w' h2 ⟨h3.os, h3.tape, h3.output, h3.size, fun k hk hn => h3.block k hk fun e => hn (by cases e; simp)⟩ h4)
 unfold execOp
 simp only [ho, resolve, invoke, builtin, Sem.run_bind, Sem.run_pure, Result.andThen_ok, List.map_toArray, List.map_cons, List.map_nil, hs, hx, hr]
end
section
variable {P : Program}
def plainO3 (o : Oper) : Bool := plainO o || (match o.op with
 | .buildSlice _ _ _ => true
 | _ => false)
theorem plain_noenter3 {o : Oper} (h : plainO3 o = true) (ρ : Operand → Value) (w : World) (f : FuncId) (args : Array Value) (w' : World) : (execOp ρ o).run P w ≠ .ok (.enter f args) w' := by
 unfold plainO3 at h
 rw [Bool.or_eq_true] at h
 rcases h with h | h
 ·exact plain_noenter h _ _ _ _ _
 ·unfold execOp
  generalize o.op = q at h ⊢
  cases q <;> first | (exact absurd (show false = true from h) (by decide)) | (exact run_noenter _ _ _ _ _)
def wfL (l : List Oper) (ps : List (Nat × Nat)) (i j : Nat) : Bool := waitsFor (opsS l) i j || ps.any fun p => (i == p.1 || waitsFor (opsS l) i p.1) && j == p.2
def chkE3 (l : List Oper) (fs : List Nat) (ps : List (Nat × Nat)) (r : List (Nat × Bool)) : Bool :=
 l.zipIdx.all fun (u : Oper × Nat) => (match u.1.op with | .select _ _ => false | _ => true) && (u.1.after.all fun e => !Region.binds .any e || decide (e.on < u.2)) && chkRW l.toArray (wfL l ps) u.2 u.1 (mkL l r) &&
  (!fs.contains u.2 || r.all fun v => v.2 || waitsFor (opsS l) u.2 v.1)
theorem so_step3 {l : List Oper} {C : World → Prop} (hC : ∀ w w2, C w → Below w.heap.size w w2 → C w2) {Q : Act → World → Prop} {fs : List Nat} {r : List (Nat × Bool)} {ps : List (Nat × Nat)} (hchk : chkE3 l fs ps r = true) {a : Act} {d : Nat → Bool} {val : Nat → Value} {a' : Act} {w' : World}
  (hst : ST P l C Q fs r a d val a' w') (hcl : CLd l d) {i : Nat} {o : Oper} (ho : l[i]? = some o) (hd : d i = false) (hpre : ∀ e ∈ o.after, Region.binds .any e = true → d e.on = true) (hok : ∀ p ∈ ps, d p.1 = true → d p.2 = true) (hnx : ∀ p ∈ ps, i = p.1 → d p.2 = true) :
  (Region.wanted o (yielded l.toArray a'.tmps) = false ∧ ST P l C Q fs r a (fun j => j == i || d j) (updV val i undef) (a'.put o.dst undef) w') ∨
  (Region.wanted o (yielded l.toArray a'.tmps) = true ∧ effUpon P (fun v w2 => ST P l C Q fs r a (fun j => j == i || d j) (updV val i v) (a'.put o.dst v) w2) w' ((execOp a'.eval o).run P w')) := by
 obtain ⟨hw, rfl, hr⟩ := hst
 unfold chkE3 at hchk
 have h1 : (o, i) ∈ l.zipIdx := by rw [List.mem_zipIdx_iff_getElem?]; exact ho
 have h2 := List.all_eq_true.1 hchk _ h1
 simp only [Bool.and_eq_true] at h2
 obtain ⟨⟨⟨a1, a2⟩, a3⟩, a4⟩ := h2
 have hsel : ∀ cs b, o.op ≠ .select cs b := fun cs b e => (by rw [e] at a1; cases a1)
 have hW : ∀ j, waitsFor (opsS l) i j = true → d j = true := fun j hj => reach_pre hcl _ i j _ (opsS_at ho) hpre hj
 have hwait : ∀ j, wfL l ps i j = true → d j = true := fun j hj => by
  unfold wfL at hj
  rw [Bool.or_eq_true] at hj
  rcases hj with hj | hj
  ·exact hW j hj
  ·obtain ⟨p, hp, hq⟩ := List.any_eq_true.1 hj
   rw [Bool.and_eq_true, Bool.or_eq_true] at hq
   have e2 : j = p.2 := by simpa using hq.2
   rw [e2]
   rcases hq.1 with h | h
   ·exact hnx p hp (by simpa using h)
   ·exact hok p hp (hW _ h)
 have hlater : ∀ j u, l[j]? = some u → wfL l ps j i = true → d j = false := fun j u hu hj => by
  cases hdj : d j
  ·rfl
  ·have hR : ∀ k, waitsFor (opsS l) j k = true → d k = true := fun k hk => reach_pre hcl _ j k _ (opsS_at hu) (hcl j _ (opsS_at hu) hdj) hk
   exfalso
   have : d i = true := by
    unfold wfL at hj
    rw [Bool.or_eq_true] at hj
    rcases hj with hj | hj
    ·exact hR i hj
    ·obtain ⟨p, hp, hq⟩ := List.any_eq_true.1 hj
     rw [Bool.and_eq_true, Bool.or_eq_true] at hq
     have e2 : i = p.2 := by simpa using hq.2
     rw [e2]
     rcases hq.1 with h | h
     ·exact hok p hp (by rw [← (by simpa using h : j = p.1)]; exact hdj)
     ·exact hok p hp (hR _ h)
   rw [hd] at this
   cases this
 obtain ⟨hard, hrdy, hmem⟩ := rdy_chkRW ho hwait hlater (mkL l r) (fun x hx => (mkL_mem r x hx).1) a3
 have hof : ∀ j, (j == i || d j) = false → d j = false := fun j hj => by
  rw [Bool.or_eq_false_iff] at hj
  exact hj.2
 rcases re_step hd hC hsel (mkL l r) a a w' (fun hh => hw _ hmem hh hd) hr hrdy rfl (fun _ _ => rfl) with ⟨h1, h2⟩ | ⟨h1, h2⟩
 ·exact .inl ⟨h1, fun x hx hq hdx => hw x hx hq (hof _ hdx), (actV_add hd undef _ _ hrdy).symm, h2⟩
 ·refine .inr ⟨h1, effUpon_mono h2 fun v w2 ⟨h3, h4⟩ => ⟨fun x hx hq hdx => ?_, (actV_add hd v _ _ hrdy).symm, h4⟩⟩
  cases hf : fs.contains i with
  | false => exact h3 hf
  | true =>
   rw [hf] at a4
   simp only [Bool.not_true, Bool.false_or] at a4
   have h5 := List.all_eq_true.1 a4 (x.1, x.2.2) (mkL_mem r x hx).2
   rw [Bool.or_eq_true] at h5
   rcases h5 with h5 | h5
   ·rw [hq] at h5; cases h5
   ·have h6 := hof _ hdx
    rw [hW x.1 h5] at h6
    cases h6
inductive OT where
 | leaf (r : List (Nat × Bool))
 | node (A B : Nat) (s t : OT)
def OT.chk (l : List Oper) (fs : List Nat) : List (Nat × Nat) → OT → Bool
 | ps, .leaf r => chkE3 l fs ps r
 | ps, .node A B s t => A != B && (l.zipIdx.all fun (x : Oper × Nat) => x.2 == A || x.2 == B || plainO3 x.1 || waitsFor (opsS l) x.2 A || waitsFor (opsS l) x.2 B) && OT.chk l fs ((B, A) :: ps) s && OT.chk l fs ((A, B) :: ps) t
def OT.inv (P : Program) (l : List Oper) (C : World → Prop) (Q : Act → World → Prop) (fs : List Nat) (a : Act) (d : Nat → Bool) (val : Nat → Value) (a' : Act) (w' : World) : OT → Prop
 | .leaf r => ST P l C Q fs r a d val a' w'
 | .node A B s t => (d A = false ∧ d B = false ∧ OT.inv P l C Q fs a d val a' w' s ∧ OT.inv P l C Q fs a d val a' w' t) ∨ (d A = true ∧ OT.inv P l C Q fs a d val a' w' s) ∨ (d B = true ∧ OT.inv P l C Q fs a d val a' w' t)
def OT.all (P : Program) (l : List Oper) (C : World → Prop) (Q : Act → World → Prop) (fs : List Nat) (a : Act) (W : World) : OT → Prop
 | .leaf r => EW P l.toArray C Q (fun i => fs.contains i) (mkL l r) a W
 | .node _ _ s t => OT.all P l C Q fs a W s ∧ OT.all P l C Q fs a W t
theorem OT.start {l : List Oper} {C : World → Prop} (hC : ∀ w w2, C w → Below w.heap.size w w2 → C w2) {Q : Act → World → Prop} {fs : List Nat} {a : Act} {W : World} (h0 : C W) : ∀ T : OT, T.all P l C Q fs a W → T.inv P l C Q fs a (fun _ => false) (fun _ => undef) a W.drew
 | .leaf _, h => so_start hC h0 h
 | .node _ _ s t, h => .inl ⟨rfl, rfl, OT.start hC h0 s h.1, OT.start hC h0 t h.2⟩
theorem OT.fin {l : List Oper} {C : World → Prop} {Q : Act → World → Prop} {fs : List Nat} {a : Act} {d : Nat → Bool} {val : Nat → Value} {a' : Act} {w' : World} (hd : ∀ j, j < l.length → d j = true) : ∀ T : OT, T.inv P l C Q fs a d val a' w' → Q a' w'
 | .leaf _, h => so_done h hd
 | .node _ _ s t, h => by
  rcases h with ⟨_, _, h, _⟩ | ⟨_, h⟩ | ⟨_, h⟩
  ·exact OT.fin hd s h
  ·exact OT.fin hd s h
  ·exact OT.fin hd t h
theorem OT.lex {l : List Oper} {fs : List Nat} : ∀ (T : OT) (ps : List (Nat × Nat)), T.chk l fs ps = true → (l.zipIdx.all fun (u : Oper × Nat) => u.1.after.all fun e => !Region.binds .any e || decide (e.on < u.2)) = true
 | .leaf r, ps, h => by
  rw [List.all_eq_true]
  intro x hx
  have h2 := List.all_eq_true.1 (show chkE3 l fs ps r = true from h) _ hx
  simp only [Bool.and_eq_true] at h2
  exact h2.1.1.2
 | .node A B s t, ps, h => by
  unfold OT.chk at h
  simp only [Bool.and_eq_true] at h
  exact OT.lex s _ h.1.2
theorem OT.step {l : List Oper} {C : World → Prop} (hC : ∀ w w2, C w → Below w.heap.size w w2 → C w2) {Q : Act → World → Prop} {fs : List Nat} {a : Act} {d : Nat → Bool} {val : Nat → Value} {a' : Act} {w' : World} (hcl : CLd l d) {i : Nat} {o : Oper} (ho : l[i]? = some o) (hd : d i = false) (hpre : ∀ e ∈ o.after, Region.binds .any e = true → d e.on = true) :
  ∀ (T : OT) (ps : List (Nat × Nat)), T.chk l fs ps = true → (∀ p ∈ ps, d p.1 = true → d p.2 = true) → (∀ p ∈ ps, i = p.1 → d p.2 = true) → T.inv P l C Q fs a d val a' w' →
  (Region.wanted o (yielded l.toArray a'.tmps) = false ∧ T.inv P l C Q fs a (fun j => j == i || d j) (updV val i undef) (a'.put o.dst undef) w') ∨
  (Region.wanted o (yielded l.toArray a'.tmps) = true ∧ effUpon P (fun v w2 => T.inv P l C Q fs a (fun j => j == i || d j) (updV val i v) (a'.put o.dst v) w2) w' ((execOp a'.eval o).run P w'))
 | .leaf _, _, hc, hok, hnx, h => so_step3 hC hc h hcl ho hd hpre hok hnx
 | .node A B s t, ps, hc, hok, hnx, h => by
  unfold OT.chk at hc
  simp only [Bool.and_eq_true] at hc
  obtain ⟨⟨⟨hne, hp⟩, hcs⟩, hct⟩ := hc
  have hAB : A ≠ B := by simpa using hne
  have up : ∀ {X : Nat}, d X = true → (X == i || d X) = true := fun h => by rw [h, Bool.or_true]
  have S : (d B = true → d A = true) → (i = B → d A = true) → s.inv P l C Q fs a d val a' w' → _ := fun h1 h2 hi => OT.step hC hcl ho hd hpre s ((B, A) :: ps) hcs (fun p hp' => by
   rcases List.mem_cons.1 hp' with rfl | hp'
   ·exact h1
   ·exact hok p hp') (fun p hp' => by
   rcases List.mem_cons.1 hp' with rfl | hp'
   ·exact h2
   ·exact hnx p hp') hi
  have T : (d A = true → d B = true) → (i = A → d B = true) → t.inv P l C Q fs a d val a' w' → _ := fun h1 h2 hi => OT.step hC hcl ho hd hpre t ((A, B) :: ps) hct (fun p hp' => by
   rcases List.mem_cons.1 hp' with rfl | hp'
   ·exact h1
   ·exact hok p hp') (fun p hp' => by
   rcases List.mem_cons.1 hp' with rfl | hp'
   ·exact h2
   ·exact hnx p hp') hi
  rcases h with ⟨hA, hB, hs, ht⟩ | ⟨hA, hs⟩ | ⟨hB, ht⟩
  ·by_cases eA : i = A
   ·rcases S (fun h => by rw [hB] at h; cases h) (fun h => absurd (eA.symm.trans h) hAB) hs with ⟨h3, h4⟩ | ⟨h3, h4⟩
    ·exact .inl ⟨h3, .inr (.inl ⟨by simp [eA], h4⟩)⟩
    ·exact .inr ⟨h3, effUpon_mono h4 fun v w2 h5 => .inr (.inl ⟨by simp [eA], h5⟩)⟩
   ·by_cases eB : i = B
    ·rcases T (fun h => by rw [hA] at h; cases h) (fun h => absurd h eA) ht with ⟨h3, h4⟩ | ⟨h3, h4⟩
     ·exact .inl ⟨h3, .inr (.inr ⟨by simp [eB], h4⟩)⟩
     ·exact .inr ⟨h3, effUpon_mono h4 fun v w2 h5 => .inr (.inr ⟨by simp [eB], h5⟩)⟩
    ·have hA' : (A == i || d A) = false := by rw [hA, Bool.or_false]; simpa using fun h => eA h.symm
     have hB' : (B == i || d B) = false := by rw [hB, Bool.or_false]; simpa using fun h => eB h.symm
     have hW : ∀ j, waitsFor (opsS l) i j = true → d j = true := fun j hj => reach_pre hcl _ i j _ (opsS_at ho) hpre hj
     have hpl : plainO3 o = true := by
      have h3 := List.all_eq_true.1 hp (o, i) (by rw [List.mem_zipIdx_iff_getElem?]; exact ho)
      simp only [Bool.or_eq_true] at h3
      rcases h3 with (((h3 | h3) | h3) | h3) | h3
      ·exact absurd (by simpa using h3) eA
      ·exact absurd (by simpa using h3) eB
      ·exact h3
      ·rw [hW A h3] at hA; cases hA
      ·rw [hW B h3] at hB; cases hB
     rcases S (fun h => by rw [hB] at h; cases h) (fun h => absurd h eB) hs with ⟨h3, h4⟩ | ⟨h3, h4⟩
     ·rcases T (fun h => by rw [hA] at h; cases h) (fun h => absurd h eA) ht with ⟨h5, h6⟩ | ⟨h5, h6⟩
      ·exact .inl ⟨h3, .inl ⟨hA', hB', h4, h6⟩⟩
      ·rw [h3] at h5; cases h5
     ·rcases T (fun h => by rw [hA] at h; cases h) (fun h => absurd h eA) ht with ⟨h5, h6⟩ | ⟨h5, h6⟩
      ·rw [h3] at h5; cases h5
      ·exact .inr ⟨h3, effUpon_mono (effUpon_and (plain_noenter3 hpl _ _) h4 h6) fun v w2 h7 => .inl ⟨hA', hB', h7.1, h7.2⟩⟩
  ·rcases S (fun _ => hA) (fun _ => hA) hs with ⟨h3, h4⟩ | ⟨h3, h4⟩
   ·exact .inl ⟨h3, .inr (.inl ⟨up hA, h4⟩)⟩
   ·exact .inr ⟨h3, effUpon_mono h4 fun v w2 h5 => .inr (.inl ⟨up hA, h5⟩)⟩
  ·rcases T (fun _ => hB) (fun _ => hB) ht with ⟨h3, h4⟩ | ⟨h3, h4⟩
   ·exact .inl ⟨h3, .inr (.inr ⟨up hB, h4⟩)⟩
   ·exact .inr ⟨h3, effUpon_mono h4 fun v w2 h5 => .inr (.inr ⟨up hB, h5⟩)⟩
theorem wp_region_ot {id : Nat} {l : List Oper} {a : Act} {W : World} {Q : Exit → Act → World → Prop} (hm : P.follows .mixedOrders = true) (C : World → Prop) (hC : ∀ w w2, C w → Below w.heap.size w w2 → C w2) (h0 : C W) (fs : List Nat) (T : OT)
  (h : T.all P l C (Q .normal) fs a W) (hc : T.chk l fs [] = true) : (Code.region id l.toArray true).wp P Q a W := by
 refine wp_region_inv hm (fun d a' w' => CLd l d ∧ ∃ val, T.inv P l C (Q .normal) fs a d val a' w') ?lex ?start ?step ?fin
 case lex => exact T.lex [] hc
 case start => exact ⟨fun i x _ hd => (by cases hd), _, OT.start hC h0 T h⟩
 case fin =>
  rintro d a' w' ⟨_, val, h⟩ hd
  exact OT.fin hd T h
 case step =>
  rintro i o ho d a' w' ⟨hcl, val, hi⟩ hd hpre
  have hup := hcl.up ho hpre
  rcases OT.step hC hcl ho hd hpre T [] hc (fun p hp => by cases hp) (fun p hp => by cases hp) hi with ⟨h3, h4⟩ | ⟨h3, h4⟩
  ·rw [if_neg (by rw [h3]; decide)]
   exact ⟨hup, _, h4⟩
  ·rw [if_pos h3]
   exact opw_eff h4 fun v w2 h5 => ⟨hup, _, h5⟩
section
variable {ops : Array Oper} {C : World → Prop} {Q : Act → World → Prop} {fn : Nat → Bool} {k : Nat} {L : DL} {a : Act} {w : World} {o : Oper}
theorem ew_app1 (hw : Region.wanted o (yielded ops a.tmps) = true) (s x : Operand) (t : TypeId) (ho : o.op = .call { callee := .builtin .append, args := #[s, x], argTypes := #[t, t] })
  (base : Nat) (e : TypeId) (i : TypeInfo) (z : Value) (size bytes : Nat) (ht : P.underlying t = some (.slice e)) (hi : P.info? e = some i) (hz : i.zero = some z) (hsize : i.size = size) (hby : i.bytes = bytes) (hzs : z.cells.size = size) (hsz : 0 < size)
  (v : Value) (n : Nat) (xs : List Value) (hs : a.eval s = v) (hown : w.ownsRow base e size v n xs) (gx c : Nat) (hx : a.eval x = .slice (some ⟨gx, 0, none⟩) 1 c) {cx : Array Value} {tx : TypeId} (rx : Row w gx cx tx) (hcx : cx.size = size) (h1 : cx.all (·.oneCell') = true)
  (h63 : n + 1 ≤ maxLen) (hbytes : (n + 1) * bytes ≤ 140737488355328) (hbase : base ≤ w.heap.size)
  (h : ∀ w2, Below w.heap.size w w2 → ∀ v' w3, w3.ownsRow base e size v' (n + 1) (xs ++ cx.toList) → Kept v.ownBlock.toList w2 w3 → (v'.ownBlock = v.ownBlock ∨ v'.ownBlock = some w2.heap.size) → (fn k = false → C w3) ∧ EW P ops C Q fn L (a.put o.dst v') w3) : EW P ops C Q fn ((k, o, true) :: L) a w := by
 refine ew_hard hw fun w2 hb => ?_
 have own2 := own_below hown hb
 have rx2 := rx.belowAll hb
 have hl : cx.toList.length = 1 * size := by rw [Array.length_toList, hcx, Nat.one_mul]
 have hnews : ∀ j u, cx.toList[j]? = some u → w2.cell? ((⟨gx, 0, none⟩ : Addr).add j) = some u := by
  intro j u hu
  rw [Array.getElem?_toList] at hu
  rw [Addr.add_mid, Nat.zero_add, cell_of_row w2 gx j cx tx (0, 0) rx2]
  exact hu
 have hbase2 : base ≤ w2.heap.size := Nat.le_trans hbase hb.size
 obtain ⟨v', w', hr, h2, h3, _⟩ := run_append_own (P := P) w2 base t o.type e i z size bytes ht hi hz hsize hby hzs hsz v n xs own2 ⟨gx, 0, none⟩ 1 c cx.toList hl hnews (cells_one h1) h63 hbytes hbase2
 have hp := app_place (P := P) w2 base t o.type e i z size bytes ht hi hz hsize hby v n xs own2 ⟨gx, 0, none⟩ 1 c cx.toList hl hnews (cells_one h1) h63 hbytes (by decide) v' w' hr
 have hd : (execOp a.eval o).run P w2 = .ok (.value v') w' := by
  unfold execOp
  simp only [ho, resolve, invoke, builtin, Sem.run_bind, Sem.run_pure, Result.andThen_ok, List.map_toArray, List.map_cons, List.map_nil, hs, hx, hr]
 rw [hd]
 exact h w2 hb v' w' h2 ⟨h3.os, h3.tape, h3.output, h3.size, fun k hk hn => h3.block k hk fun e => by
  rw [← e] at hn
  simp at hn⟩ hp
end
end
theorem zero_inv (w : World) : (zeroValue 3).run Tryz.prog w = .ok (.int .i64 0) w := by kernel_rfl
theorem cgrp_any (v f : Option Addr) (P Q G : Nat) (r : Option Addr) (w : World) (h : KnAt w v P Q G r f) :
  Calls Tryz.prog 36 #[.pointer v] w fun e w' => e = .returned (.bool (!f.isNone)) ∧ Below w.heap.size w w' := by
 have hf := fun w' (hb : Below w.heap.size w w') => grpField_any v P Q G r f w' (h.below hb)
 go_enter Tryz.func36, Tryz.ntmps36
 have sb := sbmk w
 iterate 2 go_step
 refine rp ?_;refine p_v (.bool false) (fun _ => rfl) (pw_nil ?_);simp only [pv]
 iterate 3 go_step
 refine rp ?_;refine p_m ?_;simp only [pv];refine p_c 69 Tryz.func69 #[.pointer v] (hf _ sb) ?_;intro z1001 k;simp only [pv];replace sb := kk sb k;clear k;refine p_v (.bool (!f.isNone)) (exec_neq_nilp _ _ _ _ rfl f rfl rfl ptr_ring8) ?_;refine p_a (pw_nil ?_);simp only [pv]
 go_wp2
 go_ret
 exact ⟨rfl, sb⟩
theorem ctold_any {fn : Func} (n : Nat) (f : FuncId) (caps : Array Value) (F : Nat → Nat) (w : World) (hf : Tryz.prog.funcs[f]? = some fn) (hb0 : (fn.name == "runtime.NumGoroutine" || fn.body.isNone) = false) (hn : n ≤ 4000)
  (hc : ∀ k : Nat, k < n → ∀ w', Below w.heap.size w w' → Calls Tryz.prog f (#[.int .i64 k] ++ caps) w' (Rt (.agg (natC (F k))) w')) :
  Calls Tryz.prog 38 #[.int .i64 n, .func (.func f) #[] caps] w fun e w' => ∃ g, e = .returned (.slice (some ⟨g, 0, none⟩) n n) ∧ w.heap.size ≤ g ∧ Row w' g (nsC n F) 40 ∧ Below w.heap.size w w' := by
 obtain ⟨ie, hie, hze, hsz, hby⟩ := info_nat'
 go_enter Tryz.func38, Tryz.ntmps38
 have sb := sbmk w
 iterate 2 go_step
 refine rp ?_;refine p_v (.slice none 0 0) ((fun _ => rfl)) (pw_nil ?_);simp only [pv]
 iterate 3 go_step
 refine rp ?_;refine p_m ?_;simp only [pv];refine pw_make (by rfl) 22 40 _ _ rfl ie _ Tryz.underlying22 hie hze n rfl rfl (by rw [hsz]; omega) (by rw [hby]; omega) (by omega) ?_;intro gM z1001 n0 rM k;simp only [pv]
 have bM := Nat.le_trans sb.size n0
 clear n0;replace sb := kk sb k;clear k;refine p_a (pw_nil ?_);simp only [pv]
 rw [hsz, made_nats] at rM
 iterate 4 go_step
 refine rp ?_;refine p_m ?_;refine p_v (.int .i64 0) (fun _ => rfl) (pw_nil ?_);simp only [pv]
 go_wp2_with fail
 go_loopg [6, 10] n (fun g s6 s10 wr => ∃ k : Nat, k + g = n ∧ s10 = .int .i64 k ∧ Row wr gM (nsC n (fun j => if j < k then F j else 0)) 40 ∧ Below w.heap.size w wr)
 case atStart => exact ⟨0, by omega, rfl, by rw [show (fun j => if j < 0 then F j else 0) = fun _ => 0 from funext fun j => if_neg (by omega)]; exact rM, sb⟩
 case round =>
  clear rM sb
  obtain ⟨k, hk, rfl, rM, sb⟩ := hrel
  cases gk with
  | zero =>
   obtain rfl : k = n := by omega
   clear hk hc
   rw [nsC_congr k _ F (fun j hj => if_pos hj)] at rM
   go_step
   refine rp ?_;refine p_v (.bool false) (lt_f k k) (pw_nil ?_);simp only [pv]
   iterate 8 go_step
   refine rp ?_;refine p_m ?_;refine p_a (pw_nil ?_);simp only [pv]
   go_wp2
   go_ret
   exact ⟨gM, rfl, bM, rM, sb⟩
  | succ g =>
   have hlt : k < n := by omega
   have hput := nsC_put n (fun j => if j < k then F j else 0) (fun j => if j < k + 1 then F j else 0) k hlt (0 + k * 4) (by omega) (F k) (fun j hj => by
    by_cases hjk : j = k
    ·subst hjk
     rw [if_pos (by omega), if_pos rfl]
    ·rw [if_neg hjk]
     by_cases h2 : j < k
     ·rw [if_pos h2, if_pos (by omega)]
     ·rw [if_neg h2, if_neg (by omega)])
   go_step
   refine rp ?_;refine p_v (.bool true) (lt_t k n) (pw_nil ?_);simp only [pv]
   iterate 10 go_step
   refine rp ?_;refine p_m ?_;refine p_a (pw_nil ?_);simp only [pv]
   iterate 2 go_step
   refine rp ?_;refine p_m ?_;refine p_m ?_;refine p_m ?_;refine p_m ?_;simp only [pv];refine pw_callC (by rfl) (f) _ _ _ rfl (caps) rfl (hf) (hb0) #[.int .i64 (k : Nat)] rfl _ (hc k hlt _ sb) ?_;intro z5004 k;simp only [pv];replace rM := k.ro rM;replace sb := kk sb k;clear k;refine p_x k hlt Tryz.underlying22 size_nat4 ?_;simp only [pv];refine pw_putm (by rfl) 40 _ _ rfl _ (0 + k * 4) rfl rM (natC (F k)) rfl (by exact size_nat) (by rw [nsC_size, natC_size]; omega) (natC_one _) (nsC n (fun j => if j < k + 1 then F j else 0)) hput ?_;clear rM;intro z5006 rM k;simp only [Act.put];replace sb := kk sb k;clear k;refine pw_nil ?_;clear hput
   iterate 2 go_step
   refine rp ?_;refine p_v (.int .i64 ((k + 1 : Nat) : Int)) (x_a k 1) ?_;refine p_m (pw_nil ?_);simp only [pv]
   go_wp2
   go_roundg g
   case measure => omega
   case rel => exact ⟨k + 1, by omega, rfl, rM, sb⟩
theorem ctold_st {fn : Func} (n : Nat) (f : FuncId) (caps : Array Value) (F : Nat → Nat) (w : World) (hf : Tryz.prog.funcs[f]? = some fn) (hb0 : (fn.name == "runtime.NumGoroutine" || fn.body.isNone) = false) (hn : n ≤ 4000) (g1 : Nat) (C : Nat → Array Value) (t1 : TypeId) (r1 : Row w g1 (C 0) t1)
  (hc : ∀ k : Nat, k < n → ∀ w', Kept [g1] w w' → Row w' g1 (C k) t1 → Calls Tryz.prog f (#[.int .i64 k] ++ caps) w' fun e w2 => e = .returned (.agg (natC (F k))) ∧ Row w2 g1 (C (k + 1)) t1 ∧ Kept [g1] w' w2) :
  Calls Tryz.prog 38 #[.int .i64 n, .func (.func f) #[] caps] w fun e w' => ∃ g, e = .returned (.slice (some ⟨g, 0, none⟩) n n) ∧ w.heap.size ≤ g ∧ Row w' g (nsC n F) 40 ∧ Row w' g1 (C n) t1 ∧ Kept [g1] w w' := by
 obtain ⟨ie, hie, hze, hsz, hby⟩ := info_nat'
 go_enter Tryz.func38, Tryz.ntmps38
 have sk := Kept.refl [g1] w
 iterate 2 go_step
 refine rp ?_;refine p_v (.slice none 0 0) ((fun _ => rfl)) (pw_nil ?_);simp only [pv]
 iterate 3 go_step
 refine rp ?_;refine p_m ?_;simp only [pv];refine pw_make (by rfl) 22 40 _ _ rfl ie _ Tryz.underlying22 hie hze n rfl rfl (by rw [hsz]; omega) (by rw [hby]; omega) (by omega) ?_;intro gM z1001 n0 rM k;simp only [pv]
 have d1xM := l_l r1.lt n0
 have bM := Nat.le_trans sk.size n0
 clear n0;replace r1 := k.ro r1
 replace sk := sk.trans k (by simp <;> omega)
 clear k;refine p_a (pw_nil ?_);simp only [pv]
 rw [hsz, made_nats] at rM
 iterate 4 go_step
 refine rp ?_;refine p_m ?_;refine p_v (.int .i64 0) (fun _ => rfl) (pw_nil ?_);simp only [pv]
 go_wp2_with fail
 go_loopg [6, 10] n (fun g s6 s10 wr => ∃ k : Nat, k + g = n ∧ s10 = .int .i64 k ∧ Row wr gM (nsC n (fun j => if j < k then F j else 0)) 40 ∧ Row wr g1 (C k) t1 ∧ Kept [g1] w wr ∧ g1 < gM)
 case atStart => exact ⟨0, by omega, rfl, by rw [show (fun j => if j < 0 then F j else 0) = fun _ => 0 from funext fun j => if_neg (by omega)]; exact rM, r1, sk, d1xM⟩
 case round =>
  clear rM sk r1
  obtain ⟨k, hk, rfl, rM, r1, sk, d1xM⟩ := hrel
  cases gk with
  | zero =>
   obtain rfl : k = n := by omega
   clear hk hc
   rw [nsC_congr k _ F (fun j hj => if_pos hj)] at rM
   go_step
   refine rp ?_;refine p_v (.bool false) (lt_f k k) (pw_nil ?_);simp only [pv]
   iterate 8 go_step
   refine rp ?_;refine p_m ?_;refine p_a (pw_nil ?_);simp only [pv]
   go_wp2
   go_ret
   exact ⟨gM, rfl, bM, rM, r1, sk⟩
  | succ g =>
   have hlt : k < n := by omega
   have hput := nsC_put n (fun j => if j < k then F j else 0) (fun j => if j < k + 1 then F j else 0) k hlt (0 + k * 4) (by omega) (F k) (fun j hj => by
    by_cases hjk : j = k
    ·subst hjk
     rw [if_pos (by omega), if_pos rfl]
    ·rw [if_neg hjk]
     by_cases h2 : j < k
     ·rw [if_pos h2, if_pos (by omega)]
     ·rw [if_neg h2, if_neg (by omega)])
   go_step
   refine rp ?_;refine p_v (.bool true) (lt_t k n) (pw_nil ?_);simp only [pv]
   iterate 10 go_step
   refine rp ?_;refine p_m ?_;refine p_a (pw_nil ?_);simp only [pv]
   iterate 2 go_step
   refine rp ?_;refine p_m ?_;refine p_m ?_;refine p_m ?_;refine p_m ?_;simp only [pv];refine pw_callCE (by rfl) (f) _ _ _ rfl (caps) rfl (hf) (hb0) #[.int .i64 (k : Nat)] rfl (hc k hlt _ sk r1) ?_;clear r1
   rintro _ z5004 ⟨rfl, r1, k⟩
   refine ⟨_, rfl, ?_⟩
   simp only [pv];replace rM := k.ro rM
   replace sk := sk.trans k (by simp <;> omega)
   clear k;refine p_x k hlt Tryz.underlying22 size_nat4 ?_;simp only [pv];refine pw_putm (by rfl) 40 _ _ rfl _ (0 + k * 4) rfl rM (natC (F k)) rfl (by exact size_nat) (by rw [nsC_size, natC_size]; omega) (natC_one _) (nsC n (fun j => if j < k + 1 then F j else 0)) hput ?_;clear rM;intro z5006 rM k;simp only [Act.put];replace r1 := k.ro r1
   replace sk := sk.trans k (by simp <;> omega)
   clear k;refine pw_nil ?_;clear hput
   iterate 2 go_step
   refine rp ?_;refine p_v (.int .i64 ((k + 1 : Nat) : Int)) (x_a k 1) ?_;refine p_m (pw_nil ?_);simp only [pv]
   go_wp2
   go_roundg g
   case measure => omega
   case rel => exact ⟨k + 1, by omega, rfl, rM, r1, sk, d1xM⟩
theorem to1_any (v ab : Option Addr) (n c k S : Nat) (F : Nat → Nat) (g1 g2 gb ob : Nat) (bcs : Array Value) (tb : TypeId) (w : World) (hk : k < n) (r1 : Row w g1 #[.pointer v] 25) (r2 : Row w g2 #[.slice ab n c] 22) (hna : NatsAt w ab n F gb ob bcs tb)
  (hof : ∀ w', Below w.heap.size w w' → Calls Tryz.prog 40 #[.pointer v, .agg (natC (F k))] w' (Rt (.agg (natC S)) w')) :
  Calls Tryz.prog 39 #[.int .i64 k, .pointer (some ⟨g1, 0, none⟩), .pointer (some ⟨g2, 0, none⟩)] w fun e w' => e = .returned (.agg (natC S)) ∧ Below w.heap.size w w' := by
 obtain h0 | ⟨rfl, rB, hbt⟩ := hna.at'
 ·exact absurd h0 (by omega)
 have hbt' := hbt k hk
 have hBw := rB.lt
 have HN : Hid (NatsAt w (some ⟨gb, ob, none⟩) n F gb ob bcs tb) := hna
 clear hbt rB hna
 go_enter Tryz.func39, Tryz.ntmps39
 iterate 2 go_step
 refine rp ?_;refine pw_new (by rfl) 40 rfl _ zero_nat ?_;intro g4 z0 n0 r4 k;simp only [pv]
 have d1x4 := l_l r1.lt n0
 have d2x4 := l_l r2.lt n0
 have b4 : w.heap.size ≤ g4 := n0
 clear n0;replace r1 := k.ro r1;replace r2 := k.ro r2
 have sb := k_b k
 clear k;refine pw_nil ?_
 obtain h0 | ⟨_, rB, _⟩ := (HN.out.below sb).at'
 ·exact absurd h0 (by omega)
 iterate 3 go_step
 apply wp_region_mix (by kernel_rfl) [(g4, 40, natC 0)] [_, _, _, _, _, _, _] ⟨r4, trivial⟩ (by simp <;> omega)
 ·intro p;refine mx_loadc 25 _ rfl _ (0) rfl r1 (by simp <;> omega) (.pointer v) rfl Tryz.isAgg25 ?_;simp only [pv];refine mx_loadc 22 _ rfl _ (0) rfl r2 (by simp <;> omega) (.slice (some ⟨gb, ob, none⟩) n c) rfl Tryz.isAgg22 ?_;refine m_m ?_;simp only [pv];refine m_x k hk Tryz.underlying22 size_nat4 ?_;simp only [pv];refine mx_loadmR 40 _ rfl _ (ob + k * 4) rfl rB (by simp <;> omega) (natC (F k)) hbt' _ Tryz.underlying40 rfl size_nat ?_;simp only [pv]
  refine m_k 40 Tryz.func40 #[.pointer v, .agg (natC (F k))] (fun w' hk => hof w' (sb.trans (hk.below w.heap.size sb.size (by simp <;> omega)))) ?_
  simp only [pv];refine m_p 0 S ?_;simp only [Act.put];refine mx_end ?_;intro w2 hkw hrw hnew hdis
  have zr4 : Row w2 (g4) (natC S) 40 := hrw 0 (40, natC S) rfl
  replace sb := kk sb hkw;clear hkw hrw hnew hdis r4
  have r4 := zr4
  clear zr4
  go_wp2
  exact ret_row rfl _ rfl r4 4 _ Tryz.underlying40 (by exact size_nat) rfl ⟨rfl, sb⟩
 ·kernel_rfl
section
variable {Q : Nat} [NeZero Q] {g gr gf P G : Nat} {w : World}
theorem trimN (ab : Option Addr) (m c : Nat) (La : List (Fin Q)) (q : FdQ Q) (h : GrpAt w g gr gf P Q G) (ha : PlA w (.slice ab m c) La) :
  Calls Tryz.prog 37 #[.pointer (some ⟨g, 0, none⟩), .slice ab m c] w fun e w' => ∃ gT N, e = .returned (.slice (some ⟨gT, 0, none⟩) (ptrim La).length N) ∧ w.heap.size ≤ gT ∧ (ptrim La).length ≤ N ∧ N ≤ 1000 ∧ Row w' gT (nsC N (fun i => (pco La i).val)) 40 ∧ Below w.heap.size w w' := by
 obtain ⟨ab', n, c', F, gb, ob, bcs, tb, he, hn, hna, rfl⟩ := ha
 cases he
 refine (trim_any _ ab m c F (fO Q) gb ob bcs tb w (by omega) hna (h.fa q)).mono ?_
 rintro e w' ⟨gx, rfl, hg, r, hb⟩
 obtain ⟨gT, N, he, h1, h2, h3⟩ := plN_of (L := (fl m F : List (Fin Q))) r hg (fun i _ => yTm_lt F i) (fun i => by rw [yTm_of])
 simp only [Value.slice.injEq, Option.some.injEq, Addr.mk.injEq, and_true, true_and] at he
 obtain ⟨rfl, h4, rfl⟩ := he
 rw [h4]
 simp only [pco_ptrim] at h3
 exact ⟨gx, m, rfl, h1, h2, hn, h3, hb⟩
theorem to_no (ab : Option Addr) (m c : Nat) (n : Int) (hn : n < 1 ∨ 7 < n) (h : GrpAt w g gr gf P Q G) :
  Calls Tryz.prog 13 #[.pointer (some ⟨g, 0, none⟩), .slice ab m c, .int .i64 n] w fun e w' => e = .returned (.tuple #[.slice none 0 0, .int .i64 1]) ∧ Below w.heap.size w w' := by
 have hg := fun w' (hb : Below w.heap.size w w') => cgrp_any (some ⟨g, 0, none⟩) (some ⟨gf, 0, none⟩) P Q G (some ⟨gr, 0, none⟩) w' (h.below hb).kn
 by_cases h1 : n < 1
 ·clear hn
  go_enter Tryz.func13, Tryz.ntmps13
  have sb := sbmk w
  iterate 2 go_step
  refine rp ?_;refine pw_box1 (by rfl) 25 _ rfl (.pointer (some ⟨g, 0, none⟩)) rfl rfl ?_;intro g3 z0 n0 r3 k;simp only [pv];clear n0;replace sb := kk sb k;clear k;refine pw_box1 (by rfl) 22 _ rfl (.slice ab m c) rfl rfl ?_;intro g4 z1 n0 r4 k;simp only [pv];clear n0;replace r3 := k.ro r3;replace sb := kk sb k;clear k;refine p_v (.slice none 0 0) ((fun _ => rfl)) ?_;refine p_v (.int .i64 0) (fun _ => rfl) (pw_nil ?_);simp only [pv]
  iterate 4 go_step
  refine rp ?_;refine p_d 0 r3.r (.pointer (some ⟨g, 0, none⟩)) rfl Tryz.isAgg25 ?_;simp only [pv];refine p_c 36 Tryz.func36 #[.pointer (some ⟨g, 0, none⟩)] (hg _ sb) ?_;intro z1001 k;simp only [pv];replace r3 := k.ro r3;replace r4 := k.ro r4;replace sb := kk sb k;clear k;refine p_v (.bool false) (exec_not _ _ rfl true rfl) ?_;refine p_m ?_;refine p_m ?_;simp only [pv];refine p_v (.bool true) (exec_lt_b _ _ _ _ rfl n 1 rfl rfl true (decide_eq_true h1)) ?_;refine p_k false (.bool true) ?_;refine p_m ?_;refine p_s ?_;refine p_s ?_;simp only [pv];refine p_k true (.bool true) (pw_nil ?_);simp only [pv]
  iterate 4 go_step
  refine rp ?_;refine p_v (.slice none 0 0) ((fun _ => rfl)) ?_;refine p_v (.int .i64 1) (fun _ => rfl) (pw_nil ?_);simp only [pv]
  go_wp2
  go_ret2
  exact ⟨rfl, sb⟩
 ·have h2 : 7 < n := hn.resolve_left h1
  clear hn
  go_enter Tryz.func13, Tryz.ntmps13
  have sb := sbmk w
  iterate 2 go_step
  refine rp ?_;refine pw_box1 (by rfl) 25 _ rfl (.pointer (some ⟨g, 0, none⟩)) rfl rfl ?_;intro g3 z0 n0 r3 k;simp only [pv];clear n0;replace sb := kk sb k;clear k;refine pw_box1 (by rfl) 22 _ rfl (.slice ab m c) rfl rfl ?_;intro g4 z1 n0 r4 k;simp only [pv];clear n0;replace r3 := k.ro r3;replace sb := kk sb k;clear k;refine p_v (.slice none 0 0) ((fun _ => rfl)) ?_;refine p_v (.int .i64 0) (fun _ => rfl) (pw_nil ?_);simp only [pv]
  iterate 4 go_step
  refine rp ?_;refine p_d 0 r3.r (.pointer (some ⟨g, 0, none⟩)) rfl Tryz.isAgg25 ?_;simp only [pv];refine p_c 36 Tryz.func36 #[.pointer (some ⟨g, 0, none⟩)] (hg _ sb) ?_;intro z1001 k;simp only [pv];replace r3 := k.ro r3;replace r4 := k.ro r4;replace sb := kk sb k;clear k;refine p_v (.bool false) (exec_not _ _ rfl true rfl) ?_;refine p_m ?_;refine p_m ?_;simp only [pv];refine p_v (.bool false) (exec_lt_b _ _ _ _ rfl n 1 rfl rfl false (decide_eq_false h1)) ?_;refine p_k false (.bool false) ?_;refine p_m ?_;refine p_m ?_;simp only [pv];refine p_v (.bool true) (exec_gt_i _ _ _ _ rfl n 7 rfl rfl true (decide_eq_true h2)) ?_;refine p_k false (.bool true) (pw_nil ?_);simp only [pv]
  iterate 4 go_step
  refine rp ?_;refine p_v (.slice none 0 0) ((fun _ => rfl)) ?_;refine p_v (.int .i64 1) (fun _ => rfl) (pw_nil ?_);simp only [pv]
  go_wp2
  go_ret2
  exact ⟨rfl, sb⟩
theorem to_many (ab : Option Addr) (m c : Nat) (La : List (Fin Q)) (n : Nat) (h1 : 1 ≤ n) (h7 : n ≤ 7) (hl0 : n < (ptrim La).length) (q : FdQ Q) (h : GrpAt w g gr gf P Q G) (ha : PlA w (.slice ab m c) La) :
  Calls Tryz.prog 13 #[.pointer (some ⟨g, 0, none⟩), .slice ab m c, .int .i64 n] w fun e w' => e = .returned (.tuple #[.slice none 0 0, .int .i64 1]) ∧ Below w.heap.size w w' := by
 have htr := fun w' (hb : Below w.heap.size w w') => trimN ab m c La q (h.below hb) (ha.below hb)
 obtain ⟨U, hU⟩ : ∃ U : Nat → Nat, ∀ i, (pco La i).val = U i := ⟨_, fun _ => rfl⟩
 obtain ⟨tl, htl⟩ : ∃ tl, (ptrim La).length = tl := ⟨_, rfl⟩
 have hg := fun w' (hb : Below w.heap.size w w') => cgrp_any (some ⟨g, 0, none⟩) (some ⟨gf, 0, none⟩) P Q G (some ⟨gr, 0, none⟩) w' (h.below hb).kn
 simp only [hU, htl] at htr
 rw [htl] at hl0
 clear ha hU htl
 go_enter Tryz.func13, Tryz.ntmps13
 have sb := sbmk w
 iterate 2 go_step
 refine rp ?_;refine pw_box1 (by rfl) 25 _ rfl (.pointer (some ⟨g, 0, none⟩)) rfl rfl ?_;intro g3 z0 n0 r3 k;simp only [pv];clear n0;replace sb := kk sb k;clear k;refine pw_box1 (by rfl) 22 _ rfl (.slice ab m c) rfl rfl ?_;intro g4 z1 n0 r4 k;simp only [pv]
 have d3x4 := l_l r3.lt n0
 have b4 := Nat.le_trans sb.size n0
 clear n0;replace r3 := k.ro r3;replace sb := kk sb k;clear k;refine p_v (.slice none 0 0) ((fun _ => rfl)) ?_;refine p_v (.int .i64 0) (fun _ => rfl) (pw_nil ?_);simp only [pv]
 iterate 4 go_step
 refine rp ?_;refine p_d 0 r3.r (.pointer (some ⟨g, 0, none⟩)) rfl Tryz.isAgg25 ?_;simp only [pv];refine p_c 36 Tryz.func36 #[.pointer (some ⟨g, 0, none⟩)] (hg _ sb) ?_;intro z1001 k;simp only [pv];replace r3 := k.ro r3;replace r4 := k.ro r4;replace sb := kk sb k;clear k;refine p_v (.bool false) (exec_not _ _ rfl true rfl) ?_;refine p_m ?_;refine p_m ?_;refine p_v (.bool false) (lt_f n 1) ?_;refine p_k false (.bool false) ?_;simp only [pv];refine p_m ?_;refine p_m ?_;refine p_v (.bool false) (gt_f n 7) ?_;refine p_k false (.bool false) (pw_nil ?_);simp only [pv];clear hg
 iterate 7 go_step
 refine rp ?_;refine p_d 0 r3.r (.pointer (some ⟨g, 0, none⟩)) rfl Tryz.isAgg25 ?_;simp only [pv];refine p_d 0 r4.r (.slice ab m c) rfl Tryz.isAgg22 ?_;simp only [pv];refine p_f 37 Tryz.func37 #[.pointer (some ⟨g, 0, none⟩), .slice ab m c] (htr _ sb) ?_
 rintro _ z3002 ⟨gT, N, rfl, nT, hl, hN, rT, hb⟩
 refine ⟨_, rfl, ?_⟩
 simp only [pv]
 have d4xT := l_l r4.lt nT
 clear nT
 have k := Kept.ofBelow hb
 clear hb;replace r3 := k.ro r3;replace r4 := k.ro r4;replace sb := kk sb k;clear k;refine pw_putv (by rfl) 22 _ _ rfl _ (0) rfl r4 (.slice (some ⟨gT, 0, none⟩) tl N) rfl rfl rfl size1tapiat (by exact Nat.one_pos) (#[.slice (some ⟨gT, 0, none⟩) tl N]) rfl ?_;clear r4;intro z3003 r4 k;simp only [Act.put];replace r3 := k.ro r3;replace rT := k.ro rT;replace sb := kk sb k;clear k;refine pw_nil ?_;clear htr
 iterate 4 go_step
 refine rp ?_;refine p_d 0 r4.r (.slice (some ⟨gT, 0, none⟩) tl N) rfl Tryz.isAgg22 ?_;simp only [pv];refine p_v (.int .i64 tl) (n_l (some ⟨gT, 0, none⟩) tl N sl_natsX) ?_;refine p_m ?_;refine p_v (.bool true) (gt_t tl n) (pw_nil ?_);simp only [pv]
 iterate 4 go_step
 refine rp ?_;refine p_v (.slice none 0 0) ((fun _ => rfl)) ?_;refine p_v (.int .i64 1) (fun _ => rfl) (pw_nil ?_);simp only [pv]
 go_wp2
 go_ret2
 exact ⟨rfl, sb⟩
theorem to_ok (ab : Option Addr) (m c : Nat) (La : List (Fin Q)) (n : Nat) (h1 : 1 ≤ n) (h7 : n ≤ 7) (hl0 : (ptrim La).length ≤ n) (q : FdQ Q) (qp : RgQ P) (hG : G < 2 ^ 256) (h : GrpAt w g gr gf P Q G) (ha : PlA w (.slice ab m c) La) :
  Calls Tryz.prog 13 #[.pointer (some ⟨g, 0, none⟩), .slice ab m c, .int .i64 n] w fun e w' => ∃ gC, e = .returned (.tuple #[.slice (some ⟨gC, 0, none⟩) n n, .int .i64 0]) ∧ w.heap.size ≤ gC ∧ Row w' gC (nsC n (fun k => G ^ (pco La k).val % P)) 40 ∧ Below w.heap.size w w' := by
 have htr := fun w' (hb : Below w.heap.size w w') => trimN ab m c La q (h.below hb) (ha.below hb)
 obtain ⟨U, hU⟩ : ∃ U : Nat → Nat, ∀ i, (pco La i).val = U i := ⟨_, fun _ => rfl⟩
 obtain ⟨tl, htl⟩ : ∃ tl, (ptrim La).length = tl := ⟨_, rfl⟩
 have hg := fun w' (hb : Below w.heap.size w w') => cgrp_any (some ⟨g, 0, none⟩) (some ⟨gf, 0, none⟩) P Q G (some ⟨gr, 0, none⟩) w' (h.below hb).kn
 have HUl : Hid (∀ i, U i < 2 ^ 256) := fun i => hU i ▸ Nat.lt_trans (pco La i).isLt q.m
 have HU0 : Hid (∀ i, tl ≤ i → U i = 0) := fun i hi => by
  rw [← hU, ← pco_ptrim, pco_out _ i (by omega)]
  rfl
 have hof := fun k w' (hb : Below w.heap.size w w') => qOf_ok (U k) g gr gf P Q G w' (HUl.out k) hG qp (h.below hb)
 simp only [hU, htl] at htr ⊢
 rw [htl] at hl0
 clear ha hU htl
 go_enter Tryz.func13, Tryz.ntmps13
 have sb := sbmk w
 iterate 2 go_step
 refine rp ?_;refine pw_box1 (by rfl) 25 _ rfl (.pointer (some ⟨g, 0, none⟩)) rfl rfl ?_;intro g3 z0 n0 r3 k;simp only [pv];clear n0;replace sb := kk sb k;clear k;refine pw_box1 (by rfl) 22 _ rfl (.slice ab m c) rfl rfl ?_;intro g4 z1 n0 r4 k;simp only [pv]
 have d3x4 := l_l r3.lt n0
 have b4 := Nat.le_trans sb.size n0
 clear n0;replace r3 := k.ro r3;replace sb := kk sb k;clear k;refine p_v (.slice none 0 0) ((fun _ => rfl)) ?_;refine p_v (.int .i64 0) (fun _ => rfl) (pw_nil ?_);simp only [pv]
 iterate 4 go_step
 refine rp ?_;refine p_d 0 r3.r (.pointer (some ⟨g, 0, none⟩)) rfl Tryz.isAgg25 ?_;simp only [pv];refine p_c 36 Tryz.func36 #[.pointer (some ⟨g, 0, none⟩)] (hg _ sb) ?_;intro z1001 k;simp only [pv];replace r3 := k.ro r3;replace r4 := k.ro r4;replace sb := kk sb k;clear k;refine p_v (.bool false) (exec_not _ _ rfl true rfl) ?_;refine p_m ?_;refine p_m ?_;refine p_v (.bool false) (lt_f n 1) ?_;refine p_k false (.bool false) ?_;simp only [pv];refine p_m ?_;refine p_m ?_;refine p_v (.bool false) (gt_f n 7) ?_;refine p_k false (.bool false) (pw_nil ?_);simp only [pv];clear hg
 iterate 7 go_step
 refine rp ?_;refine p_d 0 r3.r (.pointer (some ⟨g, 0, none⟩)) rfl Tryz.isAgg25 ?_;simp only [pv];refine p_d 0 r4.r (.slice ab m c) rfl Tryz.isAgg22 ?_;simp only [pv];refine p_f 37 Tryz.func37 #[.pointer (some ⟨g, 0, none⟩), .slice ab m c] (htr _ sb) ?_
 rintro _ z3002 ⟨gT, N, rfl, nT, hl, hN, rT, hb⟩
 refine ⟨_, rfl, ?_⟩
 simp only [pv]
 have d3xT := l_l r3.lt nT
 have d4xT := l_l r4.lt nT
 have bT := Nat.le_trans sb.size nT
 clear nT
 have k := Kept.ofBelow hb
 clear hb;replace r3 := k.ro r3;replace r4 := k.ro r4;replace sb := kk sb k;clear k;refine pw_putv (by rfl) 22 _ _ rfl _ (0) rfl r4 (.slice (some ⟨gT, 0, none⟩) tl N) rfl rfl rfl size1tapiat (by exact Nat.one_pos) (#[.slice (some ⟨gT, 0, none⟩) tl N]) rfl ?_;clear r4;intro z3003 r4 k;simp only [Act.put];replace r3 := k.ro r3;replace rT := k.ro rT;replace sb := kk sb k;clear k;refine pw_nil ?_;clear htr
 iterate 4 go_step
 refine rp ?_;refine p_d 0 r4.r (.slice (some ⟨gT, 0, none⟩) tl N) rfl Tryz.isAgg22 ?_;simp only [pv];refine p_v (.int .i64 tl) (n_l (some ⟨gT, 0, none⟩) tl N sl_natsX) ?_;refine p_m ?_;refine p_v (.bool false) (gt_f tl n) (pw_nil ?_);simp only [pv]
 have hO := ownN_row (m := tl) rT bT hl hN
 iterate 7 go_step
 refine rp ?_;refine p_d 0 r4.r (.slice (some ⟨gT, 0, none⟩) tl N) rfl Tryz.isAgg22 ?_;refine p_m ?_;simp only [pv];refine p_d 0 r4.r (.slice (some ⟨gT, 0, none⟩) tl N) rfl Tryz.isAgg22 ?_;simp only [pv];refine p_v (.int .i64 tl) (n_l (some ⟨gT, 0, none⟩) tl N sl_natsX) ?_;simp only [pv];refine p_v (.int .i64 ((n - tl : Nat) : Int)) ((fun w' => (exec_sub_in _ _ _ _ rfl n tl rfl rfl (by omega) (by omega) w'))) ?_;simp only [pv];refine pw_app0 (by rfl) _ _ rfl (w.heap.size) gT (N) (tl) (U) rfl hO (n - tl) rfl ((fun i _ => HU0.out _ (by omega))) ((by omega)) sb.size ?_;clear hO rT;intro v1 z6005 hO k hp
 obtain ⟨av1, cv1, rfl⟩ := own_shape hO
 simp only [pv]
 have ehOx4 := own_pl hp (show g4 ≠ gT by omega) r4.lt
 clear hp;replace r3 := k.ro r3;replace r4 := k.ro r4;replace sb := kk sb k;clear k;refine pw_putv (by rfl) 22 _ _ rfl _ (0) rfl r4 (.slice av1 (tl + (n - tl)) cv1) rfl rfl rfl size1tapiat (by exact Nat.one_pos) (#[.slice av1 (tl + (n - tl)) cv1]) rfl ?_;clear r4;intro z6006 r4 k;simp only [Act.put];replace r3 := k.ro r3
 replace hO := hO.on k (own_ne1 ehOx4)
 replace sb := kk sb k;clear k;refine pw_nil ?_
 rw [show tl + (n - tl) = n by omega] at hO r4 ⊢
 obtain ⟨_, gc, cur, hnc⟩ := ownN_nats hO (fun i _ => HUl.out i)
 clear hO ehOx4
 have hto := fun w' (hb : Below w.heap.size w w') (q3 : Row w' g3 #[.pointer (some ⟨g, 0, none⟩)] 25) (q4 : Row w' g4 #[.slice av1 n cv1] 22) (hn' : NatsAt w' av1 n U gc 0 cur 40) => ctold_any n 39 #[.pointer (some ⟨g3, 0, none⟩), .pointer (some ⟨g4, 0, none⟩)] (fun k => G ^ U k % P) w' Tryz.func39 (by kernel_rfl) (by omega) (fun k hk w2 hb2 => to1_any _ av1 n cv1 k (G ^ U k % P) U g3 g4 gc 0 cur 40 w2 hk (q3.belowAll hb2) (q4.belowAll hb2) (hn'.below hb2) (fun w3 hb3 => hof k w3 (below_on (below_on hb (Nat.le_refl _) hb2) (Nat.le_refl _) hb3)))
 clear hof
 iterate 3 go_step
 refine rp ?_;refine p_m ?_;simp only [pv];refine p_v (.func (.func 39) #[] #[.pointer (some ⟨g3, 0, none⟩), .pointer (some ⟨g4, 0, none⟩)]) (exec_func _ _ rfl _ rfl) ?_;simp only [pv];refine p_f 38 Tryz.func38 #[.int .i64 n, .func (.func 39) #[] #[.pointer (some ⟨g3, 0, none⟩), .pointer (some ⟨g4, 0, none⟩)]] (hto _ sb r3 r4 hnc) ?_
 rintro _ z7002 ⟨gC, rfl, nC, rC, hb⟩
 refine ⟨_, rfl, ?_⟩
 simp only [pv]
 have bC := Nat.le_trans sb.size nC
 clear nC
 have k := Kept.ofBelow hb
 clear hb;replace r3 := k.ro r3;replace r4 := k.ro r4;replace hnc := hnc.below k.nil;replace sb := kk sb k;clear k;refine p_a ?_;refine p_v (.int .i64 0) (fun _ => rfl) (pw_nil ?_);simp only [pv]
 go_wp2
 go_ret2
 exact ⟨gC, rfl, bC, rC, sb⟩
end
theorem at1_any (k X i g1 g2 : Nat) (w : World) (hX : X < 4611686018427387904) (hXi : X * i < 4611686018427387904) (hd : g1 ≠ g2) (r1 : Row w g1 #[.int .i64 ((X : Nat) : Int)] 3) (r2 : Row w g2 #[.int .i64 ((i : Nat) : Int)] 3) :
  Calls Tryz.prog 44 #[.int .i64 k, .pointer (some ⟨g1, 0, none⟩), .pointer (some ⟨g2, 0, none⟩)] w fun e w' => e = .returned (.agg (natC X)) ∧ Row w' g1 #[.int .i64 ((X * i : Nat) : Int)] 3 ∧ Kept [g1] w w' := by
 have hof := fun w' => nof_any ((X : Nat) : Int) w' (by omega)
 rw [Int.toNat_natCast] at hof
 go_enter Tryz.func44, Tryz.ntmps44
 have sk := Kept.refl [g1] w
 iterate 2 go_step
 refine rp ?_;refine pw_new (by rfl) 40 rfl _ zero_nat ?_;intro g4 z0 n0 r4 k;simp only [pv]
 have d1x4 := l_l r1.lt n0
 have d2x4 := l_l r2.lt n0
 have b4 := Nat.le_trans sk.size n0
 clear n0;replace r1 := k.ro r1;replace r2 := k.ro r2
 replace sk := sk.trans k (by simp <;> omega)
 clear k;refine pw_nil ?_
 iterate 3 go_step
 refine rp ?_;refine p_d 0 r1.r (.int .i64 ((X : Nat) : Int)) rfl Tryz.isAgg3 ?_;simp only [pv];refine p_c 45 Tryz.func45 #[.int .i64 ((X : Nat) : Int)] (hof _) ?_;intro z1001 k;simp only [pv];replace r1 := k.ro r1;replace r2 := k.ro r2;replace r4 := k.ro r4
 replace sk := sk.trans k (by simp <;> omega)
 clear k;refine pw_new (by rfl) 40 rfl _ zero_nat ?_;intro g5 z1002 n0 r5 k;simp only [pv]
 have d1x5 := l_l r1.lt n0
 have d2x5 := l_l r2.lt n0
 have d4x5 := l_l r4.lt n0
 have b5 := Nat.le_trans sk.size n0
 clear n0;replace r1 := k.ro r1;replace r2 := k.ro r2;replace r4 := k.ro r4
 replace sk := sk.trans k (by simp <;> omega)
 clear k;refine p_p r5 X ?_;clear r5;intro z1003 r5 k;simp only [Act.put];replace r1 := k.ro r1;replace r2 := k.ro r2;replace r4 := k.ro r4
 replace sk := sk.trans k (by simp <;> omega)
 clear k;refine pw_nil ?_
 iterate 3 go_step
 refine rp ?_;refine p_d 0 r1.r (.int .i64 ((X : Nat) : Int)) rfl Tryz.isAgg3 ?_;simp only [pv];refine p_d 0 r2.r (.int .i64 ((i : Nat) : Int)) rfl Tryz.isAgg3 ?_;simp only [pv];refine p_v (.int .i64 ((X * i : Nat) : Int)) (exec_mul_in _ _ _ _ rfl X i (X * i) rfl rfl rfl (by omega)) ?_;simp only [pv];refine pw_putv (by rfl) 3 _ _ rfl _ (0) rfl r1 (.int .i64 ((X * i : Nat) : Int)) rfl rfl rfl size1tint (by exact Nat.one_pos) (#[.int .i64 ((X * i : Nat) : Int)]) rfl ?_;clear r1;intro z2003 r1 k;simp only [Act.put];replace r2 := k.ro r2;replace r4 := k.ro r4;replace r5 := k.ro r5
 replace sk := sk.trans k (by simp <;> omega)
 clear k;refine pw_nil ?_
 iterate 3 go_step
 refine rp ?_;refine p_l r5.r ?_;simp only [pv];refine p_p r4 X ?_;clear r4;intro z3001 r4 k;simp only [Act.put];replace r1 := k.ro r1;replace r2 := k.ro r2;replace r5 := k.ro r5
 replace sk := sk.trans k (by simp <;> omega)
 clear k;refine pw_nil ?_
 go_wp2
 exact ret_row rfl _ rfl r4 4 _ Tryz.underlying40 (by exact size_nat) rfl ⟨rfl, r1, sk⟩
theorem at_no (vg : Value) (ab : Option Addr) (n c : Nat) (i : Int) (w : World) (h : i < 0 ∨ 7 < i ∨ 7 < n) :
  Calls Tryz.prog 16 #[vg, .slice ab n c, .int .i64 i] w fun e w' => e = .returned (.agg (natC 0)) ∧ Below w.heap.size w w' := by
 by_cases h1 : i < 0
 ·clear h
  go_enter Tryz.func16, Tryz.ntmps16
  iterate 2 go_step
  refine rp ?_;refine pw_box1 (by rfl) 3 _ rfl (.int .i64 i) rfl rfl ?_;intro g5 z0 n0 r5 k;simp only [pv];clear n0
  have sb := k_b k
  clear k;refine pw_new (by rfl) 40 rfl _ zero_nat ?_;intro g6 z1 n0 r6 k;simp only [pv]
  have b6 := Nat.le_trans sb.size n0
  clear n0;replace r5 := k.ro r5;replace sb := kk sb k;clear k;refine pw_nil ?_
  iterate 4 go_step
  refine rp ?_;refine p_d 0 r5.r (.int .i64 i) rfl Tryz.isAgg3 ?_;simp only [pv];refine p_v (.bool true) (exec_lt_b _ _ _ _ rfl i 0 rfl rfl true (decide_eq_true h1)) ?_;refine p_m ?_;refine p_s ?_;refine p_s ?_;refine p_k true (.bool true) ?_;simp only [pv];refine p_m ?_;refine p_s ?_;refine p_s ?_;refine p_s ?_;refine p_k true (.bool true) (pw_nil ?_);simp only [pv]
  iterate 4 go_step
  refine rp ?_;refine p_v (.agg (natC 0)) (exec_build0 _ rfl _ built_nat) ?_;simp only [pv];refine p_p r6 0 ?_;clear r6;intro z2001 r6 k;simp only [Act.put];replace sb := kk sb k;clear k;refine pw_nil ?_
  go_wp2
  exact ret_row rfl _ rfl r6 4 _ Tryz.underlying40 (by exact size_nat) rfl ⟨rfl, sb⟩
 ·by_cases h2 : 7 < i
  ·clear h
   go_enter Tryz.func16, Tryz.ntmps16
   iterate 2 go_step
   refine rp ?_;refine pw_box1 (by rfl) 3 _ rfl (.int .i64 i) rfl rfl ?_;intro g5 z0 n0 r5 k;simp only [pv];clear n0
   have sb := k_b k
   clear k;refine pw_new (by rfl) 40 rfl _ zero_nat ?_;intro g6 z1 n0 r6 k;simp only [pv]
   have b6 := Nat.le_trans sb.size n0
   clear n0;replace r5 := k.ro r5;replace sb := kk sb k;clear k;refine pw_nil ?_
   iterate 4 go_step
   refine rp ?_;refine p_d 0 r5.r (.int .i64 i) rfl Tryz.isAgg3 ?_;simp only [pv];refine p_v (.bool false) (exec_lt_b _ _ _ _ rfl i 0 rfl rfl false (decide_eq_false h1)) ?_;refine p_m ?_;simp only [pv];refine p_d 0 r5.r (.int .i64 i) rfl Tryz.isAgg3 ?_;simp only [pv];refine p_v (.bool true) (exec_gt_i _ _ _ _ rfl i 7 rfl rfl true (decide_eq_true h2)) ?_;refine p_k false (.bool true) ?_;refine p_m ?_;refine p_s ?_;refine p_s ?_;simp only [pv];refine p_s ?_;refine p_k true (.bool true) (pw_nil ?_);simp only [pv]
   iterate 4 go_step
   refine rp ?_;refine p_v (.agg (natC 0)) (exec_build0 _ rfl _ built_nat) ?_;simp only [pv];refine p_p r6 0 ?_;clear r6;intro z2001 r6 k;simp only [Act.put];replace sb := kk sb k;clear k;refine pw_nil ?_
   go_wp2
   exact ret_row rfl _ rfl r6 4 _ Tryz.underlying40 (by exact size_nat) rfl ⟨rfl, sb⟩
  ·have h3 : 7 < n := by omega
   clear h
   go_enter Tryz.func16, Tryz.ntmps16
   iterate 2 go_step
   refine rp ?_;refine pw_box1 (by rfl) 3 _ rfl (.int .i64 i) rfl rfl ?_;intro g5 z0 n0 r5 k;simp only [pv];clear n0
   have sb := k_b k
   clear k;refine pw_new (by rfl) 40 rfl _ zero_nat ?_;intro g6 z1 n0 r6 k;simp only [pv]
   have b6 := Nat.le_trans sb.size n0
   clear n0;replace r5 := k.ro r5;replace sb := kk sb k;clear k;refine pw_nil ?_
   iterate 4 go_step
   refine rp ?_;refine p_d 0 r5.r (.int .i64 i) rfl Tryz.isAgg3 ?_;simp only [pv];refine p_v (.bool false) (exec_lt_b _ _ _ _ rfl i 0 rfl rfl false (decide_eq_false h1)) ?_;refine p_m ?_;simp only [pv];refine p_d 0 r5.r (.int .i64 i) rfl Tryz.isAgg3 ?_;simp only [pv];refine p_v (.bool false) (exec_gt_i _ _ _ _ rfl i 7 rfl rfl false (decide_eq_false h2)) ?_;refine p_k false (.bool false) ?_;refine p_m ?_;refine p_m ?_;simp only [pv];refine p_v (.int .i64 n) (n_l ab n c sl_natsX) ?_;refine p_v (.bool true) (gt_t n 7) ?_;refine p_k false (.bool true) (pw_nil ?_);simp only [pv]
   iterate 4 go_step
   refine rp ?_;refine p_v (.agg (natC 0)) (exec_build0 _ rfl _ built_nat) ?_;simp only [pv];refine p_p r6 0 ?_;clear r6;intro z2001 r6 k;simp only [Act.put];replace sb := kk sb k;clear k;refine pw_nil ?_
   go_wp2
   exact ret_row rfl _ rfl r6 4 _ Tryz.underlying40 (by exact size_nat) rfl ⟨rfl, sb⟩
theorem pow7 {i k : Nat} (hi : i ≤ 7) (hk : k ≤ 7) : i ^ k < 4611686018427387904 :=
 Nat.lt_of_le_of_lt (Nat.le_trans (Nat.pow_le_pow_left hi k) (Nat.pow_le_pow_right (by decide) hk)) (by decide)
theorem at_core (v ab : Option Addr) (n c i S : Nat) (z : Int) (w : World) (h7 : n ≤ 7) (hi : i ≤ 7)
  (hmu : ∀ w' gE, Below w.heap.size w w' → Row w' gE (nsC n (fun j => i ^ j)) 40 → Calls Tryz.prog 46 #[.pointer v, .slice ab n c, .slice (some ⟨gE, 0, none⟩) n n] w' (Rt (.tuple #[.agg (natC S), .int .i64 z]) w')) :
  Calls Tryz.prog 16 #[.pointer v, .slice ab n c, .int .i64 i] w fun e w' => e = .returned (.agg (natC S)) ∧ Below w.heap.size w w' := by
 have hto := fun w' g7 g5 (hne : g7 ≠ g5) (q7 : Row w' g7 #[.int .i64 ((i ^ 0 : Nat) : Int)] 3) (q5 : Row w' g5 #[.int .i64 ((i : Nat) : Int)] 3) => ctold_st n 44 #[.pointer (some ⟨g7, 0, none⟩), .pointer (some ⟨g5, 0, none⟩)] (fun j => i ^ j) w' Tryz.func44 (by kernel_rfl) (by omega) g7 (fun k => #[.int .i64 ((i ^ k : Nat) : Int)]) 3 q7 (fun k hk w2 hk2 hr2 => at1_any k (i ^ k) i g7 g5 w2 (pow7 hi (by omega)) (by rw [← Nat.pow_succ]; exact pow7 hi (by omega)) hne hr2 (hk2.row q5 (by simp; omega)))
 have h10 : i ^ 0 = 1 := Nat.pow_zero i
 generalize (fun j => i ^ j) = E at *
 go_enter Tryz.func16, Tryz.ntmps16
 iterate 2 go_step
 refine rp ?_;refine pw_box1 (by rfl) 3 _ rfl (.int .i64 ((i : Nat) : Int)) rfl rfl ?_;intro g5 z0 n0 r5 k;simp only [pv];clear n0
 have sb := k_b k
 clear k;refine pw_new (by rfl) 40 rfl _ zero_nat ?_;intro g6 z1 n0 r6 k;simp only [pv]
 have b6 := Nat.le_trans sb.size n0
 clear n0;replace r5 := k.ro r5;replace sb := kk sb k;clear k;refine pw_nil ?_
 iterate 4 go_step
 refine rp ?_;refine p_d 0 r5.r (.int .i64 ((i : Nat) : Int)) rfl Tryz.isAgg3 ?_;refine p_v (.bool false) (lt_f i 0) ?_;refine p_m ?_;simp only [pv];refine p_d 0 r5.r (.int .i64 ((i : Nat) : Int)) rfl Tryz.isAgg3 ?_;refine p_v (.bool false) (gt_f i 7) ?_;refine p_k false (.bool false) ?_;refine p_m ?_;refine p_m ?_;simp only [pv];refine p_v (.int .i64 n) (n_l ab n c sl_natsX) ?_;refine p_v (.bool false) (gt_f n 7) ?_;refine p_k false (.bool false) (pw_nil ?_);simp only [pv]
 iterate 7 go_step
 refine rp ?_;refine pw_newv (by rfl) 3 rfl (.int .i64 0) zero_inv rfl ?_;intro g7 z3000 n0 r7 k;simp only [pv]
 have d5x7 := l_l r5.lt n0
 have d6x7 := l_l r6.lt n0
 have b7 := Nat.le_trans sb.size n0
 clear n0;replace r5 := k.ro r5;replace r6 := k.ro r6;replace sb := kk sb k;clear k;refine pw_putv (by rfl) 3 _ _ rfl _ (0) rfl r7 (.int .i64 1) rfl rfl rfl size1tint (by exact Nat.one_pos) (#[.int .i64 1]) rfl ?_;clear r7;intro z3001 r7 k;simp only [Act.put];replace r5 := k.ro r5;replace r6 := k.ro r6;replace sb := kk sb k;clear k;refine pw_nil ?_
 have r7' : Row z3001 g7 #[.int .i64 ((i ^ 0 : Nat) : Int)] 3 := by rw [h10]; exact r7
 have hd : g7 ≠ g5 := by omega
 clear r7
 rename Row _ g7 _ _ => r7
 iterate 3 go_step
 refine rp ?_;refine p_m ?_;simp only [pv];refine p_v (.int .i64 n) (n_l ab n c sl_natsX) ?_;simp only [pv];refine p_v (.func (.func 44) #[] #[.pointer (some ⟨g7, 0, none⟩), .pointer (some ⟨g5, 0, none⟩)]) (exec_func _ _ rfl _ rfl) ?_;simp only [pv];refine p_f 38 Tryz.func38 #[.int .i64 n, .func (.func 44) #[] #[.pointer (some ⟨g7, 0, none⟩), .pointer (some ⟨g5, 0, none⟩)]] (hto _ g7 g5 hd r7 r5) ?_;clear r7
 rintro _ z4003 ⟨gE, rfl, nE, rE, r7, k⟩
 refine ⟨_, rfl, ?_⟩
 simp only [pv];replace r5 := k.ro r5;replace r6 := k.ro r6;replace sb := kk sb k;clear k;refine p_a (pw_nil ?_);simp only [pv];clear hto
 iterate 3 go_step
 refine rp ?_;refine p_m ?_;refine p_m ?_;refine p_m ?_;simp only [pv];refine p_c 46 Tryz.func46 #[.pointer v, .slice ab n c, .slice (some ⟨gE, 0, none⟩) n n] (hmu _ gE sb rE) ?_;intro z5003 k;simp only [pv];replace r6 := k.ro r6;replace rE := k.ro rE;replace sb := kk sb k;clear k;refine p_m ?_;refine p_e ?_;refine p_e ?_;simp only [pv];refine pw_new (by rfl) 40 rfl _ zero_nat ?_;intro g9 z5007 n0 r9 k;simp only [pv]
 have d6x9 := l_l r6.lt n0
 have dEx9 := l_l rE.lt n0
 have b9 := Nat.le_trans sb.size n0
 clear n0;replace r6 := k.ro r6;replace rE := k.ro rE;replace sb := kk sb k;clear k;refine p_p r9 S ?_;clear r9;intro z5008 r9 k;simp only [Act.put];replace r6 := k.ro r6;replace rE := k.ro rE;replace sb := kk sb k;clear k;refine p_a (pw_nil ?_);simp only [pv]
 iterate 3 go_step
 refine rp ?_;refine p_l r9.r ?_;simp only [pv];refine p_p r6 S ?_;clear r6;intro z6001 r6 k;simp only [Act.put];replace r9 := k.ro r9;replace sb := kk sb k;clear k;refine pw_nil ?_
 go_wp2
 exact ret_row rfl _ rfl r6 4 _ Tryz.underlying40 (by exact size_nat) rfl ⟨rfl, sb⟩
theorem idxn_any {fn : Func} (ab : Option Addr) (n c : Nat) (Y : Nat → Nat) (gb ob : Nat) (bcs : Array Value) (tb : TypeId) (f : FuncId) (caps : Array Value) (B : Nat → Bool) (w : World) (hf : Tryz.prog.funcs[f]? = some fn) (hb0 : (fn.name == "runtime.NumGoroutine" || fn.body.isNone) = false) (hn : n < 4611686018427387904) (hna : NatsAt w ab n Y gb ob bcs tb)
  (hc : ∀ k : Nat, k < n → ∀ w', Below w.heap.size w w' → Calls Tryz.prog f (#[.agg (natC (Y k))] ++ caps) w' (Rt (.bool (B k)) w')) :
  Calls Tryz.prog 74 #[.slice ab n c, .func (.func f) #[] caps] w fun e w' => ∃ z : Int, e = .returned (.int .i64 z) ∧ decide (0 ≤ z) = anB B n ∧ Below w.heap.size w w' := by
 have HB : Hid (NatsAt w ab n Y gb ob bcs tb) := hna
 clear hna
 go_enter Tryz.func74, Tryz.ntmps74
 have sb := sbmk w
 iterate 2 go_step
 refine rp ?_;refine p_v (.int .i64 0) (fun _ => rfl) (pw_nil ?_);simp only [pv]
 iterate 4 go_step
 refine rp ?_;refine p_m ?_;simp only [pv];refine p_v (.int .i64 n) (n_l ab n c sl_natsX) ?_;refine p_v (.int .i64 0) (fun _ => rfl) (pw_nil ?_);simp only [pv]
 go_wp2_with fail
 go_loopg [5, 8] n (fun x s5 s8 wr => ∃ k : Nat, k + x = n ∧ s8 = .int .i64 k ∧ anB B k = false ∧ Below w.heap.size w wr)
 case atStart => exact ⟨0, by omega, rfl, rfl, sb⟩
 case round =>
  clear sb
  obtain ⟨k, hk, rfl, han, sb⟩ := hrel
  cases gk with
  | zero =>
   obtain rfl : k = n := by omega
   have HF : Hid (anB B k = false) := han
   clear hk hc han
   go_step
   refine rp ?_;refine p_v (.bool false) (lt_f k k) (pw_nil ?_);simp only [pv]
   iterate 8 go_step
   refine rp ?_;refine p_v (.int .i64 (-1)) ((fun _ => rfl)) (pw_nil ?_);simp only [pv]
   go_wp2
   go_ret
   exact ⟨_, rfl, by rw [HF.out]; rfl, sb⟩
  | succ x =>
   have hlt : k < n := by omega
   have hck := hc k hlt
   clear hc
   obtain h0 | ⟨rfl, rB, hbt⟩ := (HB.out.below sb).at'
   ·exact absurd h0 (by omega)
   have hbt' := hbt k hlt
   clear hbt
   go_step
   refine rp ?_;refine p_v (.bool true) (lt_t k n) (pw_nil ?_);simp only [pv]
   iterate 10 go_step
   refine rp ?_;refine p_m ?_;refine p_a (pw_nil ?_);simp only [pv]
   cases hBk : B k with
   | true =>
    have HF : Hid (anB B n = true) := (anB_iff B n).2 ⟨k, hlt, hBk⟩
    rw [hBk] at hck
    iterate 3 go_step
    refine rp ?_;refine p_m ?_;refine p_m ?_;refine p_m ?_;simp only [pv];refine p_x k hlt Tryz.underlying22 size_nat4 ?_;simp only [pv];refine pw_loadm (by rfl) 40 _ rfl _ (ob + k * 4) rfl rB (natC (Y k)) hbt' _ Tryz.underlying40 rfl size_nat ?_;simp only [pv];refine pw_callC (by rfl) (f) _ _ _ rfl (caps) rfl (hf) (hb0) #[.agg (natC (Y k))] rfl _ (hck _ sb) ?_;intro z4005 k;simp only [pv];replace sb := kk sb k;clear k;refine pw_nil ?_;clear rB
    iterate 4 go_step
    refine rp ?_;refine p_m ?_;refine p_a (pw_nil ?_);simp only [pv]
    go_wp2
    go_ret
    exact ⟨_, rfl, by rw [HF.out]; exact decide_eq_true (by omega), sb⟩
   | false =>
    have hnx : anB B (k + 1) = false := by
     show (anB B k || B k) = false
     rw [han, hBk]; rfl
    rw [hBk] at hck
    iterate 3 go_step
    refine rp ?_;refine p_m ?_;refine p_m ?_;refine p_m ?_;simp only [pv];refine p_x k hlt Tryz.underlying22 size_nat4 ?_;simp only [pv];refine pw_loadm (by rfl) 40 _ rfl _ (ob + k * 4) rfl rB (natC (Y k)) hbt' _ Tryz.underlying40 rfl size_nat ?_;simp only [pv];refine pw_callC (by rfl) (f) _ _ _ rfl (caps) rfl (hf) (hb0) #[.agg (natC (Y k))] rfl _ (hck _ sb) ?_;intro z4005 k;simp only [pv];replace sb := kk sb k;clear k;refine pw_nil ?_;clear rB
    iterate 6 go_step
    refine rp ?_;refine p_v (.int .i64 ((k + 1 : Nat) : Int)) (x_a k 1) ?_;refine p_m (pw_nil ?_);simp only [pv]
    go_wp2
    go_roundg x
    case measure => omega
    case rel => exact ⟨k + 1, by omega, rfl, hnx, sb⟩
theorem conn_any {fn : Func} (ab : Option Addr) (n c : Nat) (Y : Nat → Nat) (gb ob : Nat) (bcs : Array Value) (tb : TypeId) (f : FuncId) (caps : Array Value) (B : Nat → Bool) (w : World) (hf : Tryz.prog.funcs[f]? = some fn) (hb0 : (fn.name == "runtime.NumGoroutine" || fn.body.isNone) = false) (hn : n < 4611686018427387904) (hna : NatsAt w ab n Y gb ob bcs tb)
  (hc : ∀ k : Nat, k < n → ∀ w', Below w.heap.size w w' → Calls Tryz.prog f (#[.agg (natC (Y k))] ++ caps) w' (Rt (.bool (B k)) w')) :
  Calls Tryz.prog 41 #[.slice ab n c, .func (.func f) #[] caps] w fun e w' => e = .returned (.bool (anB B n)) ∧ Below w.heap.size w w' := by
 have hix := fun w' (hb : Below w.heap.size w w') => idxn_any ab n c Y gb ob bcs tb f caps B w' hf hb0 hn (hna.below hb) (fun k hk w2 h2 => hc k hk w2 (below_on hb (Nat.le_refl _) h2))
 clear hna hc
 go_enter Tryz.func41, Tryz.ntmps41
 have sb := sbmk w
 iterate 2 go_step
 refine rp ?_;refine p_v (.bool false) (fun _ => rfl) (pw_nil ?_);simp only [pv]
 iterate 3 go_step
 refine rp ?_;refine p_m ?_;refine p_m ?_;simp only [pv];refine p_f 74 Tryz.func74 #[.slice ab n c, .func (.func f) #[] caps] (hix _ sb) ?_
 rintro _ z1002 ⟨z, rfl, hz, hb⟩
 refine ⟨_, rfl, ?_⟩
 simp only [pv]
 have k := Kept.ofBelow hb
 clear hb;replace sb := kk sb k;clear k;refine p_v (.bool (anB B n)) (exec_geq_i _ _ _ _ rfl z 0 rfl rfl (anB B n) hz) ?_;refine p_a (pw_nil ?_);simp only [pv]
 go_wp2
 go_ret
 exact ⟨rfl, sb⟩
theorem may1_any (v : Option Addr) (A g1 : Nat) (B : Bool) (w : World) (r1 : Row w g1 #[.pointer v] 25)
  (hin : ∀ w', Below w.heap.size w w' → Calls Tryz.prog 43 #[.pointer v, .agg (natC A)] w' (Rt (.bool B) w')) :
  Calls Tryz.prog 42 #[.agg (natC A), .pointer (some ⟨g1, 0, none⟩)] w fun e w' => e = .returned (.bool (!B)) ∧ Below w.heap.size w w' := by
 go_enter Tryz.func42, Tryz.ntmps42
 iterate 2 go_step
 refine rp ?_;refine pw_boxr (by rfl) 40 _ rfl (natC A) rfl ?_;intro g2 z0 n0 r2 k;simp only [pv];clear n0;replace r1 := k.ro r1
 have sb := k_b k
 clear k;refine p_v (.bool false) (fun _ => rfl) (pw_nil ?_);simp only [pv]
 iterate 3 go_step
 refine rp ?_;refine p_d 0 r1.r (.pointer v) rfl Tryz.isAgg25 ?_;simp only [pv];refine p_l r2.r ?_;simp only [pv];refine p_c 43 Tryz.func43 #[.pointer v, .agg (natC A)] (hin _ sb) ?_;intro z1002 k;simp only [pv];replace r1 := k.ro r1;replace r2 := k.ro r2;replace sb := kk sb k;clear k;refine p_v (.bool (!B)) (exec_not _ _ rfl B rfl) ?_;refine p_a (pw_nil ?_);simp only [pv]
 go_wp2
 go_ret
 exact ⟨rfl, sb⟩
theorem may_no (v ab : Option Addr) (n c : Nat) (w : World) (h : n < 1 ∨ 7 < n) :
  Calls Tryz.prog 14 #[.pointer v, .slice ab n c] w fun e w' => e = .returned (.bool false) ∧ Below w.heap.size w w' := by
 by_cases h1 : n < 1
 ·clear h
  go_enter Tryz.func14, Tryz.ntmps14
  have sb := sbmk w
  iterate 2 go_step
  refine rp ?_;refine pw_box1 (by rfl) 25 _ rfl (.pointer v) rfl rfl ?_;intro g2 z0 n0 r2 k;simp only [pv];clear n0;replace sb := kk sb k;clear k;refine p_v (.bool false) (fun _ => rfl) (pw_nil ?_);simp only [pv]
  iterate 4 go_step
  refine rp ?_;refine p_m ?_;simp only [pv];refine p_v (.int .i64 n) (n_l ab n c sl_natsX) ?_;refine p_v (.bool true) (lt_t n 1) ?_;refine p_m ?_;refine p_s ?_;refine p_s ?_;simp only [pv];refine p_s ?_;refine p_k true (.bool true) (pw_nil ?_);simp only [pv]
  iterate 4 go_step
  refine rp ?_;refine p_v (.bool false) (fun _ => rfl) (pw_nil ?_);simp only [pv]
  go_wp2
  go_ret
  exact ⟨rfl, sb⟩
 ·have h2 : 7 < n := h.resolve_left h1
  clear h
  go_enter Tryz.func14, Tryz.ntmps14
  have sb := sbmk w
  iterate 2 go_step
  refine rp ?_;refine pw_box1 (by rfl) 25 _ rfl (.pointer v) rfl rfl ?_;intro g2 z0 n0 r2 k;simp only [pv];clear n0;replace sb := kk sb k;clear k;refine p_v (.bool false) (fun _ => rfl) (pw_nil ?_);simp only [pv]
  iterate 4 go_step
  refine rp ?_;refine p_m ?_;simp only [pv];refine p_v (.int .i64 n) (n_l ab n c sl_natsX) ?_;refine p_v (.bool false) (lt_f n 1) ?_;refine p_m ?_;refine p_m ?_;simp only [pv];refine p_v (.int .i64 n) (n_l ab n c sl_natsX) ?_;refine p_v (.bool true) (gt_t n 7) ?_;refine p_k false (.bool true) (pw_nil ?_);simp only [pv]
  iterate 4 go_step
  refine rp ?_;refine p_v (.bool false) (fun _ => rfl) (pw_nil ?_);simp only [pv]
  go_wp2
  go_ret
  exact ⟨rfl, sb⟩
theorem may_core (v ab : Option Addr) (n c : Nat) (C : Nat → Nat) (B : Nat → Bool) (gb ob : Nat) (bcs : Array Value) (tb : TypeId) (w : World) (h1 : 1 ≤ n) (h7 : n ≤ 7) (hna : NatsAt w ab n C gb ob bcs tb)
  (hin : ∀ k, k < n → ∀ w', Below w.heap.size w w' → Calls Tryz.prog 43 #[.pointer v, .agg (natC (C k))] w' (Rt (.bool (B k)) w')) :
  Calls Tryz.prog 14 #[.pointer v, .slice ab n c] w fun e w' => e = .returned (.bool (!anB (fun k => !B k) n)) ∧ Below w.heap.size w w' := by
 have hcn := fun w' g2 (hb : Below w.heap.size w w') (q2 : Row w' g2 #[.pointer v] 25) => conn_any ab n c C gb ob bcs tb 42 #[.pointer (some ⟨g2, 0, none⟩)] (fun k => !B k) w' Tryz.func42 (by kernel_rfl) (by omega) (hna.below hb) (fun k hk w2 h2 => may1_any v (C k) g2 (B k) w2 (q2.belowAll h2) (fun w3 h3 => hin k hk w3 (below_on (below_on hb (Nat.le_refl _) h2) (Nat.le_refl _) h3)))
 clear hin hna
 generalize anB (fun k => !B k) n = BN at *
 go_enter Tryz.func14, Tryz.ntmps14
 have sb := sbmk w
 iterate 2 go_step
 refine rp ?_;refine pw_box1 (by rfl) 25 _ rfl (.pointer v) rfl rfl ?_;intro g2 z0 n0 r2 k;simp only [pv];clear n0;replace sb := kk sb k;clear k;refine p_v (.bool false) (fun _ => rfl) (pw_nil ?_);simp only [pv]
 iterate 4 go_step
 refine rp ?_;refine p_m ?_;simp only [pv];refine p_v (.int .i64 n) (n_l ab n c sl_natsX) ?_;refine p_v (.bool false) (lt_f n 1) ?_;refine p_m ?_;refine p_m ?_;simp only [pv];refine p_v (.int .i64 n) (n_l ab n c sl_natsX) ?_;refine p_v (.bool false) (gt_f n 7) ?_;refine p_k false (.bool false) (pw_nil ?_);simp only [pv]
 iterate 7 go_step
 refine rp ?_;refine p_m ?_;simp only [pv];refine p_v (.func (.func 42) #[] #[.pointer (some ⟨g2, 0, none⟩)]) (exec_func _ _ rfl _ rfl) ?_;simp only [pv];refine p_c 41 Tryz.func41 #[.slice ab n c, .func (.func 42) #[] #[.pointer (some ⟨g2, 0, none⟩)]] (hcn _ g2 sb r2) ?_;intro z3002 k;simp only [pv];replace r2 := k.ro r2;replace sb := kk sb k;clear k;refine p_v (.bool (!BN)) (exec_not _ _ rfl BN rfl) ?_;refine p_a (pw_nil ?_);simp only [pv]
 go_wp2
 go_ret
 exact ⟨rfl, sb⟩
theorem sh_part (i : Int) (Y : Nat) : ∀ j v, (natC Y).toList[j]? = some v → (shC i Y)[0 + 1 + j]? = some v := shp_y (off := 0) (bcs := shC i Y) (i := i) (part_all _)
theorem holds_out (v ab : Option Addr) (n c Y : Nat) (i : Int) (w : World) (h : i < 1 ∨ 7 < i) :
  Calls Tryz.prog 21 #[.pointer v, .slice ab n c, .agg (shC i Y)] w fun e w' => e = .returned (.bool false) ∧ Below w.heap.size w w' := by
 by_cases h1 : i < 1
 ·clear h
  go_enter Tryz.func21, Tryz.ntmps21
  iterate 2 go_step
  refine rp ?_;refine pw_boxr (by rfl) 48 _ rfl (shC i Y) rfl ?_;intro g5 z0 n0 r5 k;simp only [pv];clear n0
  have sb := k_b k
  clear k;refine p_v (.bool false) (fun _ => rfl) (pw_nil ?_);simp only [pv]
  iterate 4 go_step
  refine rp ?_;refine p_v (.pointer (some ⟨g5, 0, none⟩)) (exec_field 48 _ 0 rfl g5 (0) rfl _ Tryz.underlying48 _ rfl 0 Tryz.sizeOf3) ?_;simp only [pv];refine p_d 0 r5.r (.int .i64 i) rfl Tryz.isAgg3 ?_;simp only [pv];refine p_v (.bool true) (exec_lt_b _ _ _ _ rfl i 1 rfl rfl true (decide_eq_true h1)) ?_;refine p_m ?_;refine p_s ?_;refine p_s ?_;refine p_s ?_;simp only [pv];refine p_k true (.bool true) ?_;refine p_m ?_;refine p_s ?_;refine p_s ?_;refine p_s ?_;simp only [pv];refine p_s ?_;refine p_s ?_;refine p_k true (.bool true) (pw_nil ?_);simp only [pv]
  iterate 4 go_step
  refine rp ?_;refine p_v (.bool false) (fun _ => rfl) (pw_nil ?_);simp only [pv]
  go_wp2
  go_ret
  exact ⟨rfl, sb⟩
 ·have h2 : 7 < i := h.resolve_left h1
  clear h
  go_enter Tryz.func21, Tryz.ntmps21
  iterate 2 go_step
  refine rp ?_;refine pw_boxr (by rfl) 48 _ rfl (shC i Y) rfl ?_;intro g5 z0 n0 r5 k;simp only [pv];clear n0
  have sb := k_b k
  clear k;refine p_v (.bool false) (fun _ => rfl) (pw_nil ?_);simp only [pv]
  iterate 4 go_step
  refine rp ?_;refine p_v (.pointer (some ⟨g5, 0, none⟩)) (exec_field 48 _ 0 rfl g5 (0) rfl _ Tryz.underlying48 _ rfl 0 Tryz.sizeOf3) ?_;simp only [pv];refine p_d 0 r5.r (.int .i64 i) rfl Tryz.isAgg3 ?_;simp only [pv];refine p_v (.bool false) (exec_lt_b _ _ _ _ rfl i 1 rfl rfl false (decide_eq_false h1)) ?_;refine p_m ?_;simp only [pv];refine p_v (.pointer (some ⟨g5, 0, none⟩)) (exec_field 48 _ 0 rfl g5 (0) rfl _ Tryz.underlying48 _ rfl 0 Tryz.sizeOf3) ?_;simp only [pv];refine p_d 0 r5.r (.int .i64 i) rfl Tryz.isAgg3 ?_;simp only [pv];refine p_v (.bool true) (exec_gt_i _ _ _ _ rfl i 7 rfl rfl true (decide_eq_true h2)) ?_;refine p_k false (.bool true) ?_;refine p_m ?_;refine p_s ?_;refine p_s ?_;simp only [pv];refine p_s ?_;refine p_s ?_;refine p_s ?_;refine p_k true (.bool true) (pw_nil ?_);simp only [pv]
  iterate 4 go_step
  refine rp ?_;refine p_v (.bool false) (fun _ => rfl) (pw_nil ?_);simp only [pv]
  go_wp2
  go_ret
  exact ⟨rfl, sb⟩
theorem holds_fld (v ab : Option Addr) (n c Y : Nat) (i : Int) (w : World) (h1 : 1 ≤ i) (h7 : i ≤ 7)
  (hin : ∀ w', Below w.heap.size w w' → Calls Tryz.prog 49 #[.pointer v, .agg (natC Y)] w' (Rt (.bool false) w')) :
  Calls Tryz.prog 21 #[.pointer v, .slice ab n c, .agg (shC i Y)] w fun e w' => e = .returned (.bool false) ∧ Below w.heap.size w w' := by
 go_enter Tryz.func21, Tryz.ntmps21
 iterate 2 go_step
 refine rp ?_;refine pw_boxr (by rfl) 48 _ rfl (shC i Y) rfl ?_;intro g5 z0 n0 r5 k;simp only [pv];clear n0
 have sb := k_b k
 clear k;refine p_v (.bool false) (fun _ => rfl) (pw_nil ?_);simp only [pv]
 iterate 4 go_step
 refine rp ?_;refine p_v (.pointer (some ⟨g5, 0, none⟩)) (exec_field 48 _ 0 rfl g5 (0) rfl _ Tryz.underlying48 _ rfl 0 Tryz.sizeOf3) ?_;simp only [pv];refine p_d 0 r5.r (.int .i64 i) rfl Tryz.isAgg3 ?_;refine p_v (.bool false) (lt_f i 1) ?_;refine p_m ?_;simp only [pv];refine p_v (.pointer (some ⟨g5, 0, none⟩)) (exec_field 48 _ 0 rfl g5 (0) rfl _ Tryz.underlying48 _ rfl 0 Tryz.sizeOf3) ?_;simp only [pv];refine p_d 0 r5.r (.int .i64 i) rfl Tryz.isAgg3 ?_;refine p_v (.bool false) (gt_f i 7) ?_;refine p_k false (.bool false) ?_;refine p_m ?_;refine p_m ?_;simp only [pv];refine p_v (.pointer (some ⟨g5, 0 + 1, none⟩)) (exec_field 48 _ 1 rfl g5 (0) rfl _ Tryz.underlying48 _ rfl 3 Tryz.sizeOf40) ?_;simp only [pv];refine pw_loadm (by rfl) 40 _ rfl _ (0 + 1) rfl r5.r (natC Y) (sh_part i Y) _ Tryz.underlying40 rfl size_nat ?_;simp only [pv];refine p_c 49 Tryz.func49 #[.pointer v, .agg (natC Y)] (hin _ sb) ?_;intro z1012 k;simp only [pv];replace r5 := k.ro r5;replace sb := kk sb k;clear k;refine p_v (.bool true) (exec_not _ _ rfl false rfl) ?_;refine p_k false (.bool true) (pw_nil ?_);simp only [pv]
 iterate 4 go_step
 refine rp ?_;refine p_v (.bool false) (fun _ => rfl) (pw_nil ?_);simp only [pv]
 go_wp2
 go_ret
 exact ⟨rfl, sb⟩
theorem holds_core (v ab : Option Addr) (n c Y S1 S2 : Nat) (B : Bool) (i : Int) (w : World) (h1 : 1 ≤ i) (h7 : i ≤ 7)
  (hin : ∀ w', Below w.heap.size w w' → Calls Tryz.prog 49 #[.pointer v, .agg (natC Y)] w' (Rt (.bool true) w'))
  (hof : ∀ w', Below w.heap.size w w' → Calls Tryz.prog 40 #[.pointer v, .agg (natC Y)] w' (Rt (.agg (natC S1)) w'))
  (hat : ∀ w', Below w.heap.size w w' → Calls Tryz.prog 16 #[.pointer v, .slice ab n c, .int .i64 i] w' (Rt (.agg (natC S2)) w'))
  (hma : ∀ w', Below w.heap.size w w' → Calls Tryz.prog 14 #[.pointer v, .slice ab n c] w' (Rt (.bool B) w')) :
  Calls Tryz.prog 21 #[.pointer v, .slice ab n c, .agg (shC i Y)] w fun e w' => e = .returned (.bool (decide (S1 % 2 ^ 256 = S2 % 2 ^ 256) && B)) ∧ Below w.heap.size w w' := by
 cases he : decide (S1 % 2 ^ 256 = S2 % 2 ^ 256)
 ·show Calls _ _ _ _ fun e w' => e = .returned (.bool false) ∧ _
  go_enter Tryz.func21, Tryz.ntmps21
  iterate 2 go_step
  refine rp ?_;refine pw_boxr (by rfl) 48 _ rfl (shC i Y) rfl ?_;intro g5 z0 n0 r5 k;simp only [pv];clear n0
  have sb := k_b k
  clear k;refine p_v (.bool false) (fun _ => rfl) (pw_nil ?_);simp only [pv]
  iterate 4 go_step
  refine rp ?_;refine p_v (.pointer (some ⟨g5, 0, none⟩)) (exec_field 48 _ 0 rfl g5 (0) rfl _ Tryz.underlying48 _ rfl 0 Tryz.sizeOf3) ?_;simp only [pv];refine p_d 0 r5.r (.int .i64 i) rfl Tryz.isAgg3 ?_;refine p_v (.bool false) (lt_f i 1) ?_;refine p_m ?_;simp only [pv];refine p_v (.pointer (some ⟨g5, 0, none⟩)) (exec_field 48 _ 0 rfl g5 (0) rfl _ Tryz.underlying48 _ rfl 0 Tryz.sizeOf3) ?_;simp only [pv];refine p_d 0 r5.r (.int .i64 i) rfl Tryz.isAgg3 ?_;refine p_v (.bool false) (gt_f i 7) ?_;refine p_k false (.bool false) ?_;refine p_m ?_;refine p_m ?_;simp only [pv];refine p_v (.pointer (some ⟨g5, 0 + 1, none⟩)) (exec_field 48 _ 1 rfl g5 (0) rfl _ Tryz.underlying48 _ rfl 3 Tryz.sizeOf40) ?_;simp only [pv];refine pw_loadm (by rfl) 40 _ rfl _ (0 + 1) rfl r5.r (natC Y) (sh_part i Y) _ Tryz.underlying40 rfl size_nat ?_;simp only [pv];refine p_c 49 Tryz.func49 #[.pointer v, .agg (natC Y)] (hin _ sb) ?_;intro z1012 k;simp only [pv];replace r5 := k.ro r5;replace sb := kk sb k;clear k;refine p_v (.bool false) (exec_not _ _ rfl true rfl) ?_;refine p_k false (.bool false) (pw_nil ?_);simp only [pv]
  iterate 7 go_step
  refine wp_region_qw (by kernel_rfl) (by kernel_rfl) ?_;refine q_m ?_;simp only [pv];refine q_v (.pointer (some ⟨g5, 0 + 1, none⟩)) (exec_field 48 _ 1 rfl g5 (0) rfl _ Tryz.underlying48 _ rfl 3 Tryz.sizeOf40) ?_;simp only [pv];refine qw_loadm (by rfl) 40 _ rfl _ (0 + 1) rfl r5 (natC Y) (sh_part i Y) _ Tryz.underlying40 rfl size_nat ?_;simp only [pv];refine q_k 40 Tryz.func40 #[.pointer v, .agg (natC Y)] (fun w' hb => hof w' (below_on sb (Nat.le_refl _) hb)) ?_;refine q_m ?_;refine q_m ?_;simp only [pv];refine q_v (.pointer (some ⟨g5, 0, none⟩)) (exec_field 48 _ 0 rfl g5 (0) rfl _ Tryz.underlying48 _ rfl 0 Tryz.sizeOf3) ?_;simp only [pv];refine qw_loadc (by rfl) 3 _ rfl _ (0) rfl r5 (.int .i64 i) rfl Tryz.isAgg3 ?_;simp only [pv];refine q_k 16 Tryz.func16 #[.pointer v, .slice ab n c, .int .i64 i] (fun w' hb => hat w' (below_on sb (Nat.le_refl _) hb)) ?_;simp only [pv];refine q_v (.bool false) (fun w' => (exec_eql_nat _ _ _ rfl S1 S2 rfl rfl w').trans (by rw [he])) ?_;refine q_m ?_;simp only [pv];refine qw_skip (by rfl) ?_;simp only [pv];refine qw_skip (by rfl) ?_;simp only [pv];refine qw_skip (by rfl) ?_;refine q_p false (.bool false) ?_;refine q_a ?_;simp only [pv];refine qw_nil ?_;intro w3 hqb;replace sb := b_o sb hqb;clear hqb
  go_wp2
  go_ret
  exact ⟨by rfl, sb⟩
 ·show Calls _ _ _ _ fun e w' => e = .returned (.bool B) ∧ _
  go_enter Tryz.func21, Tryz.ntmps21
  iterate 2 go_step
  refine rp ?_;refine pw_boxr (by rfl) 48 _ rfl (shC i Y) rfl ?_;intro g5 z0 n0 r5 k;simp only [pv];clear n0
  have sb := k_b k
  clear k;refine p_v (.bool false) (fun _ => rfl) (pw_nil ?_);simp only [pv]
  iterate 4 go_step
  refine rp ?_;refine p_v (.pointer (some ⟨g5, 0, none⟩)) (exec_field 48 _ 0 rfl g5 (0) rfl _ Tryz.underlying48 _ rfl 0 Tryz.sizeOf3) ?_;simp only [pv];refine p_d 0 r5.r (.int .i64 i) rfl Tryz.isAgg3 ?_;refine p_v (.bool false) (lt_f i 1) ?_;refine p_m ?_;simp only [pv];refine p_v (.pointer (some ⟨g5, 0, none⟩)) (exec_field 48 _ 0 rfl g5 (0) rfl _ Tryz.underlying48 _ rfl 0 Tryz.sizeOf3) ?_;simp only [pv];refine p_d 0 r5.r (.int .i64 i) rfl Tryz.isAgg3 ?_;refine p_v (.bool false) (gt_f i 7) ?_;refine p_k false (.bool false) ?_;refine p_m ?_;refine p_m ?_;simp only [pv];refine p_v (.pointer (some ⟨g5, 0 + 1, none⟩)) (exec_field 48 _ 1 rfl g5 (0) rfl _ Tryz.underlying48 _ rfl 3 Tryz.sizeOf40) ?_;simp only [pv];refine pw_loadm (by rfl) 40 _ rfl _ (0 + 1) rfl r5.r (natC Y) (sh_part i Y) _ Tryz.underlying40 rfl size_nat ?_;simp only [pv];refine p_c 49 Tryz.func49 #[.pointer v, .agg (natC Y)] (hin _ sb) ?_;intro z1012 k;simp only [pv];replace r5 := k.ro r5;replace sb := kk sb k;clear k;refine p_v (.bool false) (exec_not _ _ rfl true rfl) ?_;refine p_k false (.bool false) (pw_nil ?_);simp only [pv]
  iterate 7 go_step
  refine wp_region_qw (by kernel_rfl) (by kernel_rfl) ?_;refine q_m ?_;simp only [pv];refine q_v (.pointer (some ⟨g5, 0 + 1, none⟩)) (exec_field 48 _ 1 rfl g5 (0) rfl _ Tryz.underlying48 _ rfl 3 Tryz.sizeOf40) ?_;simp only [pv];refine qw_loadm (by rfl) 40 _ rfl _ (0 + 1) rfl r5 (natC Y) (sh_part i Y) _ Tryz.underlying40 rfl size_nat ?_;simp only [pv];refine q_k 40 Tryz.func40 #[.pointer v, .agg (natC Y)] (fun w' hb => hof w' (below_on sb (Nat.le_refl _) hb)) ?_;refine q_m ?_;refine q_m ?_;simp only [pv];refine q_v (.pointer (some ⟨g5, 0, none⟩)) (exec_field 48 _ 0 rfl g5 (0) rfl _ Tryz.underlying48 _ rfl 0 Tryz.sizeOf3) ?_;simp only [pv];refine qw_loadc (by rfl) 3 _ rfl _ (0) rfl r5 (.int .i64 i) rfl Tryz.isAgg3 ?_;simp only [pv];refine q_k 16 Tryz.func16 #[.pointer v, .slice ab n c, .int .i64 i] (fun w' hb => hat w' (below_on sb (Nat.le_refl _) hb)) ?_;simp only [pv];refine q_v (.bool true) (fun w' => (exec_eql_nat _ _ _ rfl S1 S2 rfl rfl w').trans (by rw [he])) ?_;refine q_m ?_;refine q_m ?_;refine q_m ?_;simp only [pv];refine q_k 14 Tryz.func14 #[.pointer v, .slice ab n c] (fun w' hb => hma w' (below_on sb (Nat.le_refl _) hb)) ?_;refine q_p true (.bool B) ?_;refine q_a ?_;simp only [pv];refine qw_nil ?_;intro w3 hqb;replace sb := b_o sb hqb;clear hqb
  go_wp2
  go_ret
  exact ⟨by rfl, sb⟩
theorem zero_slw (w : World) : (zeroValue 22).run Tryz.prog w = .ok (.slice none 0 0) w := by kernel_rfl
theorem zero_sll (w : World) : (zeroValue 100).run Tryz.prog w = .ok (.slice none 0 0) w := by kernel_rfl
theorem size1tapiat2 : (Tryz.prog.info? 100).map (·.size) = some 1 := by kernel_rfl
def Zx (I : Nat → Int) : Nat → Int
 | 0 => 0
 | j + 1 => I j
theorem ownE_one {k : Nat} {e : TypeId} {w : World} {base g : Nat} {C : Nat → Array Value} (hk : 0 < k) (hC : ∀ i, (C i).size = k) (r : Row w g (C 0) e) (hb : base ≤ g) : OwnE k e w base (.slice (some ⟨g, 0, none⟩) 1 1) 1 C := by
 have h0 : (esC k 0 C).toList = [] := by
  apply List.eq_nil_of_length_eq_zero
  rw [Array.length_toList, esC_size, Nat.zero_mul]
 have h1 : (esC k 1 C).toList = (C 0).toList := by rw [← esC_snoc hC 0, h0]; rfl
 refine ⟨by rw [Array.length_toList, esC_size], .inr ⟨g, 1, _, rfl, hb, r, Nat.le_refl _, by decide, by rw [hC, Nat.one_mul], ?_⟩⟩
 rw [h1]
 apply List.take_of_length_le
 rw [Array.length_toList, hC]
 omega
def oOf (n : Nat) : Nat := if n + 1 = 1 then 0 else 0 + 1 * 4
theorem nsC_0 (f : Nat → Nat) : nsC 0 f = #[] := Array.eq_empty_of_size_eq_zero (by rw [nsC_size])
theorem ownE_zs {w : World} {b : Nat} {v : Value} {n : Nat} {Z : Nat → Int} (h : OwnE 1 3 w b v n (fun j => #[.int .i64 (Z j)])) : ∃ ab c gb cur, v = .slice ab n c ∧ ZsAt w ab n Z gb 0 cur 3 := by
 obtain ⟨ab, c, gb, cur, rfl, _, he⟩ := ownE_els (C := fun j => #[.int .i64 (Z j)]) (fun _ => rfl) h
 exact ⟨ab, c, gb, cur, rfl, ⟨he.at'.imp id fun ⟨h1, h2, h3⟩ => ⟨h1, h2, fun i hi => h3 i hi 0 _ rfl⟩⟩⟩
theorem nin_app {g : Nat} {a b : List Nat} (h1 : g ∉ a) (h2 : g ∉ b) : g ∉ a ++ b := fun h => (List.mem_append.1 h).elim h1 h2
theorem from1_any (v ay : Option Addr) (n cy j A GG D S : Nat) (R : Nat → Nat) (WV : Nat → Nat → Nat) (g1 g2 g3 g4 gW : Nat) (w : World) (hj : j < n + 1) (hn : n ≤ 7) (r1 : Row w g1 #[.pointer v] 25) (r2 : Row w g2 #[.slice (some ⟨gW, 0, none⟩) (n + 1) (n + 1)] 100) (r3 : Row w g3 #[.slice ay n cy] 22) (r4 : Row w g4 (natC A) 40) (rW : Row w gW (vsC (n + 1) (fun j => .slice (some ⟨R j, 0, none⟩) (n + 1) (n + 1))) 22) (rj : Row w (R j) (nsC (n + 1) (WV j)) 40)
  (hdot : ∀ w', Below w.heap.size w w' → Calls Tryz.prog 60 #[.pointer v, .slice (some ⟨R j, oOf n, none⟩) (n + 1 - 1) (n + 1 - 1), .slice ay n cy] w' (Rt (.tuple #[.agg (natC D), .int .i64 0]) w'))
  (hgg : ∀ w', Below w.heap.size w w' → Calls Tryz.prog 61 #[.pointer v] w' (Rt (.agg (natC GG)) w'))
  (hmu : ∀ w' x y, Below w.heap.size w w' → Row w' x (natC A ++ natC GG) 40 → Row w' y (natC (WV j 0) ++ natC D) 40 → Calls Tryz.prog 46 #[.pointer v, .slice (some ⟨x, 0, none⟩) 2 2, .slice (some ⟨y, 0, none⟩) 2 2] w' (Rt (.tuple #[.agg (natC S), .int .i64 0]) w')) :
  Calls Tryz.prog 59 #[.int .i64 j, .pointer (some ⟨g1, 0, none⟩), .pointer (some ⟨g2, 0, none⟩), .pointer (some ⟨g3, 0, none⟩), .pointer (some ⟨g4, 0, none⟩)] w fun e w' => e = .returned (.agg (natC S)) ∧ Below w.heap.size w w' := by
 obtain ⟨ie, hie, hz, hsz, _⟩ := info_nat'
 have h21 : ¬ 2 * ie.size > 2 ^ 24 := by rw [hsz]; decide
 have h22 : ¬ 2 * ie.size = 0 := by rw [hsz]; decide
 have hl2 := fun A B => lit_two A B ie.size hsz
 clear hsz
 go_enter Tryz.func59, Tryz.ntmps59
 iterate 2 go_step
 refine rp ?_;refine pw_new (by rfl) 40 rfl _ zero_nat ?_;intro g6 z0 n0 r6 k;simp only [pv]
 have b6 : w.heap.size ≤ g6 := n0
 clear n0;replace r1 := k.ro r1;replace r2 := k.ro r2;replace r3 := k.ro r3;replace r4 := k.ro r4;replace rW := k.ro rW;replace rj := k.ro rj
 have sb := k_b k
 clear k;refine pw_nil ?_
 iterate 3 go_step
 apply wp_region_mix (by kernel_rfl) [] [_, _, _, _, _, _, _, _, _, _, _, _, _, _] trivial List.nodup_nil
 ·intro p;refine mx_loadc 25 _ rfl _ (0) rfl r1 (by simp <;> omega) (.pointer v) rfl Tryz.isAgg25 ?_;simp only [pv];refine mx_loadc 100 _ rfl _ (0) rfl r2 (by simp <;> omega) (.slice (some ⟨gW, 0, none⟩) (n + 1) (n + 1)) rfl Tryz.isAgg100 ?_;refine m_m ?_;simp only [pv];refine m_x j hj Tryz.underlying100 Tryz.sizeOf22 ?_;simp only [pv];refine mx_loadc 22 _ rfl _ (0 + j * 1) rfl rW (by simp <;> omega) (.slice (some ⟨R j, 0, none⟩) (n + 1) (n + 1)) (by rw [show 0 + j * 1 = j by omega]; exact vsC_get _ hj) Tryz.isAgg22 ?_;simp only [pv];refine mx_val (.slice (some ⟨R j, oOf n, none⟩) (n + 1 - 1) (n + 1 - 1)) (y_rests _ _ _ rfl sl_natsX 4 size_eln (R j) 0 (n + 1) (n + 1) 1 rfl rfl (by omega) (by omega)) ?_;simp only [pv];refine mx_loadc 22 _ rfl _ (0) rfl r3 (by simp <;> omega) (.slice ay n cy) rfl Tryz.isAgg22 ?_;simp only [pv]
  refine m_k 60 Tryz.func60 #[.pointer v, .slice (some ⟨R j, oOf n, none⟩) (n + 1 - 1) (n + 1 - 1), .slice ay n cy] (fun w' hk => hdot w' (sb.trans (hk.below w.heap.size sb.size (by simp <;> omega)))) ?_
  refine m_m ?_;refine m_e ?_;refine m_e ?_;simp only [pv];refine m_n ?_;simp only [pv];refine m_p 23 D ?_;simp only [Act.put];refine m_a ?_;simp only [pv];refine mx_end ?_;intro w2 hkw hrw hnew hdis
  have n7 := hnew 11 rfl
  have zr7 : Row w2 (p 11) (natC D) 40 := hrw 23 (40, natC D) rfl
  replace r1 := hkw.ro r1;replace r2 := hkw.ro r2;replace r3 := hkw.ro r3;replace r4 := hkw.ro r4;replace r6 := hkw.ro r6;replace rW := hkw.ro rW;replace rj := hkw.ro rj;replace sb := kk sb hkw;clear hkw hrw hnew hdis n7
  generalize p 11 = g7 at *
  have r7 := zr7
  clear zr7;clear hdot
  iterate 3 go_step
  apply wp_region_mix (by kernel_rfl) [] [_, _, _, _, _, _, _, _, _, _, _, _, _, _, _, _, _, _, _, _] trivial List.nodup_nil
  ·intro p;refine mx_loadc 25 _ rfl _ (0) rfl r1 (by simp <;> omega) (.pointer v) rfl Tryz.isAgg25 ?_;simp only [pv];refine m_l r4 ?_;simp only [pv];refine mx_loadc 25 _ rfl _ (0) rfl r1 (by simp <;> omega) (.pointer v) rfl Tryz.isAgg25 ?_;simp only [pv]
   refine m_k 61 Tryz.func61 #[.pointer v] (fun w' hk => hgg w' (sb.trans (hk.below w.heap.size sb.size (by simp <;> omega)))) ?_
   simp only [pv];refine mx_litv 22 40 2 _ rfl (natC (A) ++ natC (GG)) ie _ Tryz.underlying22 hie hz h21 h22 [(0, .agg (natC (A))), (1, .agg (natC (GG)))] rfl (hl2 _ _) ?_;simp only [pv];refine mx_loadc 100 _ rfl _ (0) rfl r2 (by simp <;> omega) (.slice (some ⟨gW, 0, none⟩) (n + 1) (n + 1)) rfl Tryz.isAgg100 ?_;refine m_m ?_;simp only [pv];refine m_x j hj Tryz.underlying100 Tryz.sizeOf22 ?_;simp only [pv];refine mx_loadc 22 _ rfl _ (0 + j * 1) rfl rW (by simp <;> omega) (.slice (some ⟨R j, 0, none⟩) (n + 1) (n + 1)) (by rw [show 0 + j * 1 = j by omega]; exact vsC_get _ hj) Tryz.isAgg22 ?_;simp only [pv];refine m_x 0 (Nat.succ_pos n) Tryz.underlying22 size_nat4 ?_;simp only [pv];refine mx_loadm 40 _ rfl _ (0 + 0 * 4) rfl rj (by simp <;> omega) (natC (WV j 0)) (nsC_part (n + 1) (WV j) 0 (Nat.succ_pos n) (0 + 0 * 4) rfl) _ Tryz.underlying40 rfl size_nat ?_;simp only [pv];refine m_l r7 ?_;simp only [pv];refine mx_litv 22 40 2 _ rfl (natC (WV j 0) ++ natC (D)) ie _ Tryz.underlying22 hie hz h21 h22 [(0, .agg (natC (WV j 0))), (1, .agg (natC (D)))] rfl (hl2 _ _) ?_;simp only [pv]
   refine mx_callR 46 _ _ rfl Tryz.func46 (by kernel_rfl) #[.pointer v, .slice (some ⟨p 4, 0, none⟩) 2 2, .slice (some ⟨p 12, 0, none⟩) 2 2] rfl (.tuple #[.agg (natC S), .int .i64 0]) [9, 25] (fun w' hk hr => hmu w' (p 4) (p 12) (sb.trans (hk.below w.heap.size sb.size (by simp <;> omega))) (hr 9 (by simp) (40, natC A ++ natC GG) rfl) (hr 25 (by simp) (40, natC (WV j 0) ++ natC D) rfl)) ?_
   refine m_m ?_;refine m_e ?_;refine m_e ?_;simp only [pv];refine m_n ?_;simp only [pv];refine m_p 35 S ?_;simp only [Act.put];refine m_a ?_;simp only [pv];refine mx_end ?_;intro w3 hkw hrw hnew hdis
   have n27 := hnew 4 rfl
   have n35 := hnew 12 rfl
   have n9 := hnew 17 rfl
   have zr27 : Row w3 (p 4) (natC (A) ++ natC (GG)) 40 := hrw 9 (40, natC (A) ++ natC (GG)) rfl
   have zr35 : Row w3 (p 12) (natC (WV j 0) ++ natC (D)) 40 := hrw 25 (40, natC (WV j 0) ++ natC (D)) rfl
   have zr9 : Row w3 (p 17) (natC S) 40 := hrw 35 (40, natC S) rfl
   have d6x9 := l_l r6.lt n9
   replace r6 := hkw.ro r6;replace sb := kk sb hkw;clear hkw hrw hnew hdis n27 n35 n9
   generalize p 4 = g27 at *
   generalize p 12 = g35 at *
   generalize p 17 = g9 at *
   clear zr27;clear zr35
   have r9 := zr9
   clear zr9;clear hmu hgg
   iterate 3 go_step
   refine rp ?_;refine p_l r9.r ?_;simp only [pv];refine p_p r6 S ?_;clear r6;intro z3001 r6 k;simp only [Act.put];replace r9 := k.ro r9;replace sb := kk sb k;clear k;refine pw_nil ?_
   go_wp2
   exact ret_row rfl _ rfl r6 4 _ Tryz.underlying40 (by exact size_nat) rfl ⟨rfl, sb⟩
  ·kernel_rfl
 ·kernel_rfl
theorem from_many (v ab : Option Addr) (A n c : Nat) (w : World) (h : 7 ≤ n) :
  Calls Tryz.prog 28 #[.pointer v, .agg (natC A), .slice ab n c] w fun e w' => e = .returned (.tuple #[.slice none 0 0, .int .i64 1]) ∧ Below w.heap.size w w' := by
 go_enter Tryz.func28, Tryz.ntmps28
 have sb := sbmk w
 iterate 2 go_step
 refine rp ?_;refine pw_box1 (by rfl) 25 _ rfl (.pointer v) rfl rfl ?_;intro g3 z0 n0 r3 k;simp only [pv];clear n0;replace sb := kk sb k;clear k;refine pw_boxr (by rfl) 40 _ rfl (natC A) rfl ?_;intro g4 z1 n0 r4 k;simp only [pv];clear n0;replace r3 := k.ro r3;replace sb := kk sb k;clear k;refine p_v (.slice none 0 0) ((fun _ => rfl)) ?_;refine p_v (.int .i64 0) (fun _ => rfl) (pw_nil ?_);simp only [pv]
 iterate 4 go_step
 refine rp ?_;refine p_m ?_;simp only [pv];refine p_v (.int .i64 n) (n_l ab n c sl_shs) ?_;simp only [pv];refine p_v (.bool true) (exec_geq_i _ _ _ _ rfl n 7 rfl rfl true (decide_eq_true (by omega))) ?_;refine p_m ?_;refine p_s ?_;refine p_s ?_;refine p_s ?_;simp only [pv];refine p_s ?_;refine p_k true (.bool true) (pw_nil ?_);simp only [pv]
 iterate 4 go_step
 refine rp ?_;refine p_v (.slice none 0 0) ((fun _ => rfl)) ?_;refine p_v (.int .i64 1) (fun _ => rfl) (pw_nil ?_);simp only [pv]
 go_wp2
 go_ret2
 exact ⟨rfl, sb⟩
theorem from_mem (v ab : Option Addr) (A n c : Nat) (w : World) (h : n < 7) (hin : ∀ w', Below w.heap.size w w' → Calls Tryz.prog 43 #[.pointer v, .agg (natC A)] w' (Rt (.bool false) w')) :
  Calls Tryz.prog 28 #[.pointer v, .agg (natC A), .slice ab n c] w fun e w' => e = .returned (.tuple #[.slice none 0 0, .int .i64 1]) ∧ Below w.heap.size w w' := by
 go_enter Tryz.func28, Tryz.ntmps28
 have sb := sbmk w
 iterate 2 go_step
 refine rp ?_;refine pw_box1 (by rfl) 25 _ rfl (.pointer v) rfl rfl ?_;intro g3 z0 n0 r3 k;simp only [pv];clear n0;replace sb := kk sb k;clear k;refine pw_boxr (by rfl) 40 _ rfl (natC A) rfl ?_;intro g4 z1 n0 r4 k;simp only [pv];clear n0;replace r3 := k.ro r3;replace sb := kk sb k;clear k;refine p_v (.slice none 0 0) ((fun _ => rfl)) ?_;refine p_v (.int .i64 0) (fun _ => rfl) (pw_nil ?_);simp only [pv]
 iterate 4 go_step
 refine rp ?_;refine p_m ?_;simp only [pv];refine p_v (.int .i64 n) (n_l ab n c sl_shs) ?_;simp only [pv];refine p_v (.bool false) (exec_geq_i _ _ _ _ rfl n 7 rfl rfl false (decide_eq_false (by omega))) ?_;refine p_m ?_;simp only [pv];refine p_d 0 r3.r (.pointer v) rfl Tryz.isAgg25 ?_;simp only [pv];refine p_l r4.r ?_;simp only [pv];refine p_c 43 Tryz.func43 #[.pointer v, .agg (natC A)] (hin _ sb) ?_;intro z1006 k;simp only [pv];replace r3 := k.ro r3;replace r4 := k.ro r4;replace sb := kk sb k;clear k;refine p_v (.bool true) (exec_not _ _ rfl false rfl) ?_;refine p_k false (.bool true) (pw_nil ?_);simp only [pv]
 iterate 4 go_step
 refine rp ?_;refine p_v (.slice none 0 0) ((fun _ => rfl)) ?_;refine p_v (.int .i64 1) (fun _ => rfl) (pw_nil ?_);simp only [pv]
 go_wp2
 go_ret2
 exact ⟨rfl, sb⟩
theorem from_core (bad : Bool) (v ab : Option Addr) (A n c GG : Nat) (I : Nat → Int) (Y D S : Nat → Nat) (WV : Nat → Nat → Nat) (gb ob : Nat) (bcs : Array Value) (tb : TypeId) (w : World) (h : n < 7) (hY0 : ∀ k, k < n → Y k < 2 ^ 256) (hna : ElsAt 5 w ab n (fun k => shC (I k) (Y k)) gb ob bcs tb) (hin : ∀ w', Below w.heap.size w w' → Calls Tryz.prog 43 #[.pointer v, .agg (natC A)] w' (Rt (.bool true) w'))
  (hw1 : bad = true → ∀ w' ax cx gx cur, Below w.heap.size w w' → ZsAt w' ax (n + 1) (Zx I) gx 0 cur 3 → Calls Tryz.prog 58 #[.pointer v, .slice ax (n + 1) cx] w' (Rt (.tuple #[.slice none 0 0, .int .i64 1]) w'))
  (hw2 : bad = false → ∀ w' ax cx gx cur, Below w.heap.size w w' → ZsAt w' ax (n + 1) (Zx I) gx 0 cur 3 → Calls Tryz.prog 58 #[.pointer v, .slice ax (n + 1) cx] w' fun e w2 => ∃ gW R, e = .returned (.tuple #[.slice (some ⟨gW, 0, none⟩) (n + 1) (n + 1), .int .i64 0]) ∧ Row w2 gW (vsC (n + 1) (fun j => .slice (some ⟨R j, 0, none⟩) (n + 1) (n + 1))) 22 ∧ FamAt w2 w'.heap.size (n + 1) R WV (n + 1) ∧ Below w'.heap.size w' w2)
  (hdot : ∀ j, j < n + 1 → ∀ w' rj ay cy gy cur, Below w.heap.size w w' → Row w' rj (nsC (n + 1) (WV j)) 40 → NatsAt w' ay n Y gy 0 cur 40 → Calls Tryz.prog 60 #[.pointer v, .slice (some ⟨rj, oOf n, none⟩) (n + 1 - 1) (n + 1 - 1), .slice ay n cy] w' (Rt (.tuple #[.agg (natC (D j)), .int .i64 0]) w'))
  (hgg : ∀ w', Below w.heap.size w w' → Calls Tryz.prog 61 #[.pointer v] w' (Rt (.agg (natC GG)) w'))
  (hmu : ∀ j, j < n + 1 → ∀ w' x y, Below w.heap.size w w' → Row w' x (natC A ++ natC GG) 40 → Row w' y (natC (WV j 0) ++ natC (D j)) 40 → Calls Tryz.prog 46 #[.pointer v, .slice (some ⟨x, 0, none⟩) 2 2, .slice (some ⟨y, 0, none⟩) 2 2] w' (Rt (.tuple #[.agg (natC (S j)), .int .i64 0]) w')) :
  Calls Tryz.prog 28 #[.pointer v, .agg (natC A), .slice ab n c] w fun e w' => ((bad = true ∧ e = .returned (.tuple #[.slice none 0 0, .int .i64 1])) ∨ (bad = false ∧ ∃ gC, e = .returned (.tuple #[.slice (some ⟨gC, 0, none⟩) (n + 1) (n + 1), .int .i64 0]) ∧ w.heap.size ≤ gC ∧ Row w' gC (nsC (n + 1) S) 40)) ∧ Below w.heap.size w w' := by
 obtain ⟨ie, hie, hz, hsz, hby⟩ := info_nat'
 obtain ⟨iei, hiei, hzi, hszi, hbyi⟩ := info_int'
 have h11 : ¬ 1 * ie.size > 2 ^ 24 := by rw [hsz]; decide
 have h12 : ¬ 1 * ie.size = 0 := by rw [hsz]; decide
 have hi1 : ¬ 1 * iei.size > 2 ^ 24 := by rw [hszi]; decide
 have hi2 : ¬ 1 * iei.size = 0 := by rw [hszi]; decide
 have hl1 := fun A => lit_one A ie.size hsz
 have hli := fun a => lit_i1 a iei.size hszi
 have HB : Hid (ElsAt 5 w ab n (fun k => shC (I k) (Y k)) gb ob bcs tb) := hna
 clear hna
 go_enter Tryz.func28, Tryz.ntmps28
 have sb := sbmk w
 iterate 2 go_step
 refine rp ?_;refine pw_box1 (by rfl) 25 _ rfl (.pointer v) rfl rfl ?_;intro g3 z0 n0 r3 k;simp only [pv];clear n0;replace sb := kk sb k;clear k;refine pw_boxr (by rfl) 40 _ rfl (natC A) rfl ?_;intro g4 z1 n0 r4 k;simp only [pv];clear n0;replace r3 := k.ro r3;replace sb := kk sb k;clear k;refine p_v (.slice none 0 0) ((fun _ => rfl)) ?_;refine p_v (.int .i64 0) (fun _ => rfl) (pw_nil ?_);simp only [pv]
 iterate 4 go_step
 refine rp ?_;refine p_m ?_;simp only [pv];refine p_v (.int .i64 n) (n_l ab n c sl_shs) ?_;simp only [pv];refine p_v (.bool false) (exec_geq_i _ _ _ _ rfl n 7 rfl rfl false (decide_eq_false (by omega))) ?_;refine p_m ?_;simp only [pv];refine p_d 0 r3.r (.pointer v) rfl Tryz.isAgg25 ?_;simp only [pv];refine p_l r4.r ?_;simp only [pv];refine p_c 43 Tryz.func43 #[.pointer v, .agg (natC A)] (hin _ sb) ?_;intro z1006 k;simp only [pv];replace r3 := k.ro r3;replace r4 := k.ro r4;replace sb := kk sb k;clear k;refine p_v (.bool false) (exec_not _ _ rfl true rfl) ?_;refine p_k false (.bool false) (pw_nil ?_);simp only [pv];clear hin
 iterate 7 go_step
 refine rp ?_;refine pw_litr (by rfl) 30 3 1 _ rfl #[.int .i64 0] iei _ Tryz.underlying30 hiei hzi hi1 hi2 [(0, .int .i64 0)] rfl (hli _) ?_;intro gX z3000 n0 rX k;simp only [pv]
 have d3xX := l_l r3.lt n0
 have d4xX := l_l r4.lt n0
 have bX := Nat.le_trans sb.size n0
 clear n0;replace r3 := k.ro r3;replace r4 := k.ro r4;replace sb := kk sb k;clear k;refine pw_lit0 (by rfl) 22 40 rfl ie Tryz.underlying22 hie ?_;intro gY z3001 n0 rY k;simp only [pv]
 have d3xY := l_l r3.lt n0
 have d4xY := l_l r4.lt n0
 have dXxY := l_l rX.lt n0
 have bY := Nat.le_trans sb.size n0
 clear n0;replace r3 := k.ro r3;replace r4 := k.ro r4;replace rX := k.ro rX;replace sb := kk sb k;clear k;refine pw_newv (by rfl) 22 rfl (.slice none 0 0) zero_slw rfl ?_;intro g9 z3002 n0 r9 k;simp only [pv]
 have d3x9 := l_l r3.lt n0
 have d4x9 := l_l r4.lt n0
 have dXx9 := l_l rX.lt n0
 have dYx9 := l_l rY.lt n0
 have b9 := Nat.le_trans sb.size n0
 clear n0;replace r3 := k.ro r3;replace r4 := k.ro r4;replace rX := k.ro rX;replace rY := k.ro rY;replace sb := kk sb k;clear k;refine p_a ?_;simp only [pv];refine pw_putv (by rfl) 22 _ _ rfl _ (0) rfl r9 (.slice (some ⟨gY, 0, none⟩) 0 0) rfl rfl rfl size1tapiat (by exact Nat.one_pos) (#[.slice (some ⟨gY, 0, none⟩) 0 0]) rfl ?_;clear r9;intro z3004 r9 k;simp only [Act.put];replace r3 := k.ro r3;replace r4 := k.ro r4;replace rX := k.ro rX;replace rY := k.ro rY;replace sb := kk sb k;clear k;refine pw_nil ?_
 iterate 4 go_step
 refine rp ?_;refine p_m ?_;simp only [pv];refine p_v (.int .i64 n) (n_l ab n c sl_shs) ?_;refine p_v (.int .i64 0) (fun _ => rfl) (pw_nil ?_);simp only [pv]
 have hX : OwnE 1 3 _ w.heap.size _ 1 (fun j => #[.int .i64 (Zx I j)]) := ownE_one (C := (fun j => #[.int .i64 (Zx I j)])) (by decide) (fun _ => rfl) rX bX
 rw [← nsC_0 Y] at rY
 have hY := ownN_row (m := 0) rY bY (Nat.le_refl 0) (by decide)
 have hXY : gX ≠ gY := by omega
 go_wp2_with fail
 go_loopg [8, 11, 27] n (fun x s8 s11 s27 wr => ∃ (k : Nat) (vy : Value), k + x = n ∧ s27 = .int .i64 k ∧ OwnE 1 3 wr w.heap.size s8 (k + 1) (fun j => #[.int .i64 (Zx I j)]) ∧ OwnN wr w.heap.size vy k Y ∧ Row wr g9 #[vy] 22 ∧ Row wr g3 #[.pointer v] 25 ∧ Row wr g4 (natC A) 40 ∧ s8.ownBlock ≠ some g3 ∧ s8.ownBlock ≠ some g4 ∧ s8.ownBlock ≠ some g9 ∧ vy.ownBlock ≠ some g3 ∧ vy.ownBlock ≠ some g4 ∧ vy.ownBlock ≠ some g9 ∧ (∀ b, vy.ownBlock = some b → s8.ownBlock ≠ some b) ∧ Below w.heap.size w wr)
 case atStart =>
  refine ⟨0, .slice (some ⟨gY, 0, none⟩) 0 0, by omega, rfl, hX, hY, r9, r3, r4, ?_, ?_, ?_, ?_, ?_, ?_, ?_, sb⟩
  ·exact fun e => absurd (Option.some.inj (show some gX = some g3 from e)) (by omega)
  ·exact fun e => absurd (Option.some.inj (show some gX = some g4 from e)) (by omega)
  ·exact fun e => absurd (Option.some.inj (show some gX = some g9 from e)) (by omega)
  ·exact fun e => absurd (Option.some.inj (show some gY = some g3 from e)) (by omega)
  ·exact fun e => absurd (Option.some.inj (show some gY = some g4 from e)) (by omega)
  ·exact fun e => absurd (Option.some.inj (show some gY = some g9 from e)) (by omega)
  ·exact fun b e1 e2 => hXY ((Option.some.inj (show some gX = some b from e2)).trans (Option.some.inj (show some gY = some b from e1)).symm)
 case round =>
  clear r3 r4 r9 rX rY hX hY sb hXY
  obtain ⟨k, vy, hk, rfl, hX, hY, r9, r3, r4, eX3, eX4, eX9, eY3, eY4, eY9, zXY, sb⟩ := hrel
  cases gk with
  | succ x =>
   have hlt : k < n := by omega
   clear hdot hmu hgg hw1 hw2
   obtain h0 | ⟨rfl, rB, hbt⟩ := (HB.out.below sb).at'
   ·exact absurd h0 (by omega)
   have hbt' := hbt k hlt
   clear hbt
   go_step
   refine rp ?_;refine p_v (.bool true) (lt_t k n) (pw_nil ?_);simp only [pv]
   iterate 10 go_step
   refine rp ?_;refine p_x k hlt Tryz.underlying59 size_sh5 ?_;simp only [pv];refine pw_loadm (by rfl) 48 _ rfl _ (ob + k * 5) rfl rB (shC (I k) (Y k)) hbt' _ Tryz.underlying48 rfl size_sh ?_;simp only [pv];refine pw_new (by rfl) 48 rfl _ zero_sh ?_;intro g11 z6002 n0 r11 k;simp only [pv]
   have d3x11 := l_l r3.lt n0
   have d4x11 := l_l r4.lt n0
   have d9x11 := l_l r9.lt n0
   have ehXx11 := hX.new n0
   have ehYx11 := hY.new n0
   have b11 := Nat.le_trans sb.size n0
   clear n0;replace r3 := k.ro r3;replace r4 := k.ro r4;replace r9 := k.ro r9
   replace hX := hX.on k (own_ne0 _)
   replace hY := hY.on k (own_ne0 _)
   replace sb := kk sb k;clear k;refine pw_put (by rfl) 48 _ _ rfl _ rfl r11 (shC (I k) (Y k)) rfl (by exact size_sh) (by rfl) (sh_one _ _) ?_;clear r11;intro z6003 r11 k;simp only [Act.put];replace r3 := k.ro r3;replace r4 := k.ro r4;replace r9 := k.ro r9
   replace hX := hX.on k (own_ne1 ehXx11)
   replace hY := hY.on k (own_ne1 ehYx11)
   replace sb := kk sb k;clear k;refine pw_nil ?_;clear rB hbt'
   have eX11 := ehXx11
   have eY11 := ehYx11
   clear ehXx11 ehYx11
   have nS11 : g11 ∉ (u8.ownBlock.toList ++ vy.ownBlock.toList) := nin_app (own_nin eX11) (own_nin eY11)
   have nS9 : g9 ∉ (u8.ownBlock.toList ++ vy.ownBlock.toList) := nin_app (own_nin eX9) (own_nin eY9)
   iterate 2 go_step
   refine wp_region_ot (by kernel_rfl) (fun x => Kept (u8.ownBlock.toList ++ vy.ownBlock.toList) z6003 x) (fun _ _ h1 h2 => h1.trans (Kept.ofBelow h2) (by simp)) (Kept.refl _ _) [11] (.node 3 8 (.node 4 8 (.leaf [(0, false), (1, false), (2, false), (5, false), (6, false), (7, false), (3, true), (4, true), (8, true), (9, true), (10, false), (11, true)]) (.leaf [(0, false), (1, false), (2, false), (5, false), (6, false), (7, false), (3, true), (8, true), (4, true), (9, true), (10, false), (11, true)])) (.leaf [(0, false), (1, false), (2, false), (5, false), (6, false), (7, false), (8, true), (3, true), (4, true), (9, true), (10, false), (11, true)])) ?_ (by kernel_rfl)
   refine ⟨⟨?_, ?_⟩, ?_⟩
   ·show EW _ _ _ _ _ _ _ _
    have ck := Kept.refl (u8.ownBlock.toList ++ vy.ownBlock.toList) z6003
    have or11 := r11
    have or9 := r9
    refine e_m ?_;simp only [pv];refine e_v (.pointer (some ⟨g11, 0, none⟩)) (exec_field 48 _ 0 rfl g11 (0) rfl _ Tryz.underlying48 _ rfl 0 Tryz.sizeOf3) ?_;simp only [pv];refine ew_loadk (by rfl) 3 _ rfl _ 0 rfl (fun _ hk => (hk.row or11 nS11).r) (.int .i64 (I k)) rfl Tryz.isAgg3 ?_;simp only [pv];refine ew_loadk (by rfl) 22 _ rfl _ 0 rfl (fun _ hk => (hk.row or9 nS9).r) vy rfl Tryz.isAgg22 ?_;simp only [pv];refine e_v (.pointer (some ⟨g11, 0 + 1, none⟩)) (exec_field 48 _ 1 rfl g11 (0) rfl _ Tryz.underlying48 _ rfl 3 Tryz.sizeOf40) ?_;simp only [pv];refine ew_loadm (by rfl) 40 _ rfl _ (0 + 1) rfl (fun _ hk => (hk.row or11 nS11).r) (natC (Y k)) (sh_part _ _) _ Tryz.underlying40 rfl size_nat ?_;simp only [pv];clear or11 or9;refine ew_litr (by rfl) 30 3 1 _ rfl #[.int .i64 (I k)] iei _ Tryz.underlying30 hiei hzi hi1 hi2 [(0, .int .i64 (I k))] rfl (hli _) ?_;intro wa3 hqb gI wb3 n0 rI hb;replace r3 := r3.belowAll hqb;replace r4 := r4.belowAll hqb;replace r9 := r9.belowAll hqb;replace r11 := r11.belowAll hqb
    replace hX := hX.on (Kept.ofBelow hqb) (own_ne0 _)
    replace hY := hY.on (Kept.ofBelow hqb) (own_ne0 _)
    replace sb := b_o sb hqb
    replace ck := ck.trans (Kept.ofBelow hqb) (by simp)
    replace r3 := r3.belowAll hb;replace r4 := r4.belowAll hb;replace r9 := r9.belowAll hb;replace r11 := r11.belowAll hb
    replace hX := hX.on (Kept.ofBelow hb) (own_ne0 _)
    replace hY := hY.on (Kept.ofBelow hb) (own_ne0 _)
    replace sb := b_o sb hb
    replace ck := ck.trans (Kept.ofBelow hb) (by simp)
    refine ⟨fun _ => ck, ?_⟩
    simp only [pv];clear hqb hb n0;refine ew_app1 (by rfl) _ _ 30 rfl w.heap.size 3 iei _ 1 8 Tryz.underlying30 hiei hzi hszi hbyi rfl (by decide) u8 (k + 1) _ rfl hX gI 1 rfl rI rfl (by simp [Value.oneCell']) (by unfold maxLen; omega) (by omega) sb.size ?_;intro wa4 hqb v1 wb4 hN1 kp hp;replace r3 := r3.belowAll hqb;replace r4 := r4.belowAll hqb;replace r9 := r9.belowAll hqb;replace r11 := r11.belowAll hqb;replace rI := rI.belowAll hqb
    replace hX := hX.on (Kept.ofBelow hqb) (own_ne0 _)
    replace hY := hY.on (Kept.ofBelow hqb) (own_ne0 _)
    replace sb := b_o sb hqb
    replace ck := ck.trans (Kept.ofBelow hqb) (by simp)
    clear rI
    have hXn : OwnE 1 3 wb4 w.heap.size v1 (k + 1 + 1) (fun j => #[.int .i64 (Zx I j)]) := by
     have := hN1
     rw [show (esC 1 (k + 1) (fun j => #[.int .i64 (Zx I j)])).toList ++ (#[.int .i64 (I k)] : Array Value).toList = (esC 1 (k + 1 + 1) (fun j => #[.int .i64 (Zx I j)])).toList from esC_snoc (C := (fun j => #[.int .i64 (Zx I j)])) (fun _ => rfl) (k + 1)] at this
     exact this
    have f3 := r3.lt
    have f4 := r4.lt
    have f9 := r9.lt
    have f11 := r11.lt
    have zN := own_two hY hp zXY
    replace r3 := kp.row r3 (own_nin eX3)
    replace r4 := kp.row r4 (own_nin eX4)
    replace r9 := kp.row r9 (own_nin eX9)
    replace r11 := kp.row r11 (own_nin eX11)
    replace hY := hY.on kp (own_nin2 zXY)
    replace sb := sb.trans (kp.below w.heap.size sb.size hX.base)
    replace ck := ck.trans kp (fun g hg => .inl (List.mem_append_left _ hg))
    clear hX
    have hX := hXn
    clear hXn zXY
    have zXY := zN
    clear zN;replace eX3 := own_apart hp f3 eX3;replace eX4 := own_apart hp f4 eX4;replace eX9 := own_apart hp f9 eX9;replace eX11 := own_apart hp f11 eX11;clear f3 f4 f9 f11
    refine ⟨fun _ => ck, ?_⟩
    simp only [pv];clear hqb kp hp hN1;refine ew_litr (by rfl) 22 40 1 _ rfl (natC (Y k)) ie _ Tryz.underlying22 hie hz h11 h12 [(0, .agg (natC (Y k)))] rfl (hl1 _) ?_;intro wa8 hqb gN wb8 n0 rN hb;replace r3 := r3.belowAll hqb;replace r4 := r4.belowAll hqb;replace r9 := r9.belowAll hqb;replace r11 := r11.belowAll hqb
    replace hX := hX.on (Kept.ofBelow hqb) (own_ne0 _)
    replace hY := hY.on (Kept.ofBelow hqb) (own_ne0 _)
    replace sb := b_o sb hqb
    replace ck := ck.trans (Kept.ofBelow hqb) (by simp)
    have eXN := hX.new n0
    replace r3 := r3.belowAll hb;replace r4 := r4.belowAll hb;replace r9 := r9.belowAll hb;replace r11 := r11.belowAll hb
    replace hX := hX.on (Kept.ofBelow hb) (own_ne0 _)
    replace hY := hY.on (Kept.ofBelow hb) (own_ne0 _)
    replace sb := b_o sb hb
    replace ck := ck.trans (Kept.ofBelow hb) (by simp)
    refine ⟨fun _ => ck, ?_⟩
    simp only [pv];clear hqb hb n0;refine ew_app1 (by rfl) _ _ 22 rfl w.heap.size 40 ie _ 4 32 Tryz.underlying22 hie hz hsz hby rfl (by decide) vy k _ rfl hY gN 1 rfl rN (natC_size _) (natC_one _) (by unfold maxLen; omega) (by omega) sb.size ?_;intro wa9 hqb v2 wb9 hN1 kp hp;replace r3 := r3.belowAll hqb;replace r4 := r4.belowAll hqb;replace r9 := r9.belowAll hqb;replace r11 := r11.belowAll hqb;replace rN := rN.belowAll hqb
    replace hX := hX.on (Kept.ofBelow hqb) (own_ne0 _)
    replace hY := hY.on (Kept.ofBelow hqb) (own_ne0 _)
    replace sb := b_o sb hqb
    replace ck := ck.trans (Kept.ofBelow hqb) (by simp)
    clear rN
    have hYn : OwnN wb9 w.heap.size v2 (k + 1) Y := by
     have := hN1
     rw [nsC_snoc] at this
     exact this
    have f3 := r3.lt
    have f4 := r4.lt
    have f9 := r9.lt
    have f11 := r11.lt
    have zN := own_sym (own_two hX hp (own_sym zXY))
    replace r3 := kp.row r3 (own_nin eY3)
    replace r4 := kp.row r4 (own_nin eY4)
    replace r9 := kp.row r9 (own_nin eY9)
    replace r11 := kp.row r11 (own_nin eY11)
    replace hX := hX.on kp (own_nin2 (own_sym zXY))
    replace sb := sb.trans (kp.below w.heap.size sb.size hY.base)
    replace ck := ck.trans kp (fun g hg => .inl (List.mem_append_right _ hg))
    clear hY
    have hY := hYn
    clear hYn zXY
    have zXY := zN
    clear zN;replace eY3 := own_apart hp f3 eY3;replace eY4 := own_apart hp f4 eY4;replace eY9 := own_apart hp f9 eY9;replace eY11 := own_apart hp f11 eY11;clear f3 f4 f9 f11
    obtain ⟨a2, c2, rfl⟩ := own_shape hY
    refine ⟨fun _ => ck, ?_⟩
    simp only [pv];clear hqb kp hp hN1;refine ew_as (by rfl) rfl rfl ?_;simp only [pv];refine ew_putv (by rfl) 22 _ _ rfl _ 0 rfl r9 (.slice a2 (k + 1) c2) rfl rfl rfl size1tapiat (by exact Nat.one_pos) #[.slice a2 (k + 1) c2] rfl ?_;intro wa11 hqb wb11 r9n kp;replace r3 := r3.belowAll hqb;replace r4 := r4.belowAll hqb;replace r9 := r9.belowAll hqb;replace r11 := r11.belowAll hqb
    replace hX := hX.on (Kept.ofBelow hqb) (own_ne0 _)
    replace hY := hY.on (Kept.ofBelow hqb) (own_ne0 _)
    replace sb := b_o sb hqb
    replace ck := ck.trans (Kept.ofBelow hqb) (by simp)
    refine ⟨fun h => (by cases h), ?_⟩
    simp only [Act.put]
    replace r3 := kp.row r3 (by simp <;> omega)
    replace r4 := kp.row r4 (by simp <;> omega)
    clear r9 r11
    have r9 := r9n
    replace hX := hX.on kp (own_ne1 eX9)
    replace hY := hY.on kp (own_ne1 eY9)
    replace sb := sb.trans (kp.below _ sb.size (by simp <;> omega))
    clear hqb kp ck r9n;refine ew_nil ?_;intro wz hqb;replace r3 := r3.belowAll hqb;replace r4 := r4.belowAll hqb;replace r9 := r9.belowAll hqb
    replace hX := hX.on (Kept.ofBelow hqb) (own_ne0 _)
    replace hY := hY.on (Kept.ofBelow hqb) (own_ne0 _)
    replace sb := b_o sb hqb;clear hqb
    iterate 2 go_step
    refine rp ?_;refine p_v (.int .i64 ((k + 1 : Nat) : Int)) (x_a k 1) ?_;refine p_m (pw_nil ?_);simp only [pv]
    go_wp2
    go_roundg x
    case measure => omega
    case rel => exact ⟨k + 1, _, by omega, rfl, hX, hY, r9, r3, r4, eX3, eX4, eX9, eY3, eY4, eY9, zXY, sb⟩
   ·show EW _ _ _ _ _ _ _ _
    have ck := Kept.refl (u8.ownBlock.toList ++ vy.ownBlock.toList) z6003
    have or11 := r11
    have or9 := r9
    refine e_m ?_;simp only [pv];refine e_v (.pointer (some ⟨g11, 0, none⟩)) (exec_field 48 _ 0 rfl g11 (0) rfl _ Tryz.underlying48 _ rfl 0 Tryz.sizeOf3) ?_;simp only [pv];refine ew_loadk (by rfl) 3 _ rfl _ 0 rfl (fun _ hk => (hk.row or11 nS11).r) (.int .i64 (I k)) rfl Tryz.isAgg3 ?_;simp only [pv];refine ew_loadk (by rfl) 22 _ rfl _ 0 rfl (fun _ hk => (hk.row or9 nS9).r) vy rfl Tryz.isAgg22 ?_;simp only [pv];refine e_v (.pointer (some ⟨g11, 0 + 1, none⟩)) (exec_field 48 _ 1 rfl g11 (0) rfl _ Tryz.underlying48 _ rfl 3 Tryz.sizeOf40) ?_;simp only [pv];refine ew_loadm (by rfl) 40 _ rfl _ (0 + 1) rfl (fun _ hk => (hk.row or11 nS11).r) (natC (Y k)) (sh_part _ _) _ Tryz.underlying40 rfl size_nat ?_;simp only [pv];clear or11 or9;refine ew_litr (by rfl) 30 3 1 _ rfl #[.int .i64 (I k)] iei _ Tryz.underlying30 hiei hzi hi1 hi2 [(0, .int .i64 (I k))] rfl (hli _) ?_;intro wa3 hqb gI wb3 n0 rI hb;replace r3 := r3.belowAll hqb;replace r4 := r4.belowAll hqb;replace r9 := r9.belowAll hqb;replace r11 := r11.belowAll hqb
    replace hX := hX.on (Kept.ofBelow hqb) (own_ne0 _)
    replace hY := hY.on (Kept.ofBelow hqb) (own_ne0 _)
    replace sb := b_o sb hqb
    replace ck := ck.trans (Kept.ofBelow hqb) (by simp)
    replace r3 := r3.belowAll hb;replace r4 := r4.belowAll hb;replace r9 := r9.belowAll hb;replace r11 := r11.belowAll hb
    replace hX := hX.on (Kept.ofBelow hb) (own_ne0 _)
    replace hY := hY.on (Kept.ofBelow hb) (own_ne0 _)
    replace sb := b_o sb hb
    replace ck := ck.trans (Kept.ofBelow hb) (by simp)
    refine ⟨fun _ => ck, ?_⟩
    simp only [pv];clear hqb hb n0;refine ew_litr (by rfl) 22 40 1 _ rfl (natC (Y k)) ie _ Tryz.underlying22 hie hz h11 h12 [(0, .agg (natC (Y k)))] rfl (hl1 _) ?_;intro wa8 hqb gN wb8 n0 rN hb;replace r3 := r3.belowAll hqb;replace r4 := r4.belowAll hqb;replace r9 := r9.belowAll hqb;replace r11 := r11.belowAll hqb;replace rI := rI.belowAll hqb
    replace hX := hX.on (Kept.ofBelow hqb) (own_ne0 _)
    replace hY := hY.on (Kept.ofBelow hqb) (own_ne0 _)
    replace sb := b_o sb hqb
    replace ck := ck.trans (Kept.ofBelow hqb) (by simp)
    have eXN := hX.new n0
    replace r3 := r3.belowAll hb;replace r4 := r4.belowAll hb;replace r9 := r9.belowAll hb;replace r11 := r11.belowAll hb;replace rI := rI.belowAll hb
    replace hX := hX.on (Kept.ofBelow hb) (own_ne0 _)
    replace hY := hY.on (Kept.ofBelow hb) (own_ne0 _)
    replace sb := b_o sb hb
    replace ck := ck.trans (Kept.ofBelow hb) (by simp)
    refine ⟨fun _ => ck, ?_⟩
    simp only [pv];clear hqb hb n0;refine ew_app1 (by rfl) _ _ 30 rfl w.heap.size 3 iei _ 1 8 Tryz.underlying30 hiei hzi hszi hbyi rfl (by decide) u8 (k + 1) _ rfl hX gI 1 rfl rI rfl (by simp [Value.oneCell']) (by unfold maxLen; omega) (by omega) sb.size ?_;intro wa4 hqb v1 wb4 hN1 kp hp;replace r3 := r3.belowAll hqb;replace r4 := r4.belowAll hqb;replace r9 := r9.belowAll hqb;replace r11 := r11.belowAll hqb;replace rI := rI.belowAll hqb;replace rN := rN.belowAll hqb
    replace hX := hX.on (Kept.ofBelow hqb) (own_ne0 _)
    replace hY := hY.on (Kept.ofBelow hqb) (own_ne0 _)
    replace sb := b_o sb hqb
    replace ck := ck.trans (Kept.ofBelow hqb) (by simp)
    clear rI
    have hXn : OwnE 1 3 wb4 w.heap.size v1 (k + 1 + 1) (fun j => #[.int .i64 (Zx I j)]) := by
     have := hN1
     rw [show (esC 1 (k + 1) (fun j => #[.int .i64 (Zx I j)])).toList ++ (#[.int .i64 (I k)] : Array Value).toList = (esC 1 (k + 1 + 1) (fun j => #[.int .i64 (Zx I j)])).toList from esC_snoc (C := (fun j => #[.int .i64 (Zx I j)])) (fun _ => rfl) (k + 1)] at this
     exact this
    have f3 := r3.lt
    have f4 := r4.lt
    have f9 := r9.lt
    have f11 := r11.lt
    have fN := rN.lt
    have zN := own_two hY hp zXY
    replace r3 := kp.row r3 (own_nin eX3)
    replace r4 := kp.row r4 (own_nin eX4)
    replace r9 := kp.row r9 (own_nin eX9)
    replace r11 := kp.row r11 (own_nin eX11)
    replace rN := kp.row rN (own_nin eXN)
    replace hY := hY.on kp (own_nin2 zXY)
    replace sb := sb.trans (kp.below w.heap.size sb.size hX.base)
    replace ck := ck.trans kp (fun g hg => .inl (List.mem_append_left _ hg))
    clear hX
    have hX := hXn
    clear hXn zXY
    have zXY := zN
    clear zN;replace eX3 := own_apart hp f3 eX3;replace eX4 := own_apart hp f4 eX4;replace eX9 := own_apart hp f9 eX9;replace eX11 := own_apart hp f11 eX11;replace eXN := own_apart hp fN eXN;clear f3 f4 f9 f11 fN
    refine ⟨fun _ => ck, ?_⟩
    simp only [pv];clear hqb kp hp hN1;refine ew_app1 (by rfl) _ _ 22 rfl w.heap.size 40 ie _ 4 32 Tryz.underlying22 hie hz hsz hby rfl (by decide) vy k _ rfl hY gN 1 rfl rN (natC_size _) (natC_one _) (by unfold maxLen; omega) (by omega) sb.size ?_;intro wa9 hqb v2 wb9 hN1 kp hp;replace r3 := r3.belowAll hqb;replace r4 := r4.belowAll hqb;replace r9 := r9.belowAll hqb;replace r11 := r11.belowAll hqb;replace rN := rN.belowAll hqb
    replace hX := hX.on (Kept.ofBelow hqb) (own_ne0 _)
    replace hY := hY.on (Kept.ofBelow hqb) (own_ne0 _)
    replace sb := b_o sb hqb
    replace ck := ck.trans (Kept.ofBelow hqb) (by simp)
    clear rN
    have hYn : OwnN wb9 w.heap.size v2 (k + 1) Y := by
     have := hN1
     rw [nsC_snoc] at this
     exact this
    have f3 := r3.lt
    have f4 := r4.lt
    have f9 := r9.lt
    have f11 := r11.lt
    have zN := own_sym (own_two hX hp (own_sym zXY))
    replace r3 := kp.row r3 (own_nin eY3)
    replace r4 := kp.row r4 (own_nin eY4)
    replace r9 := kp.row r9 (own_nin eY9)
    replace r11 := kp.row r11 (own_nin eY11)
    replace hX := hX.on kp (own_nin2 (own_sym zXY))
    replace sb := sb.trans (kp.below w.heap.size sb.size hY.base)
    replace ck := ck.trans kp (fun g hg => .inl (List.mem_append_right _ hg))
    clear hY
    have hY := hYn
    clear hYn zXY
    have zXY := zN
    clear zN;replace eY3 := own_apart hp f3 eY3;replace eY4 := own_apart hp f4 eY4;replace eY9 := own_apart hp f9 eY9;replace eY11 := own_apart hp f11 eY11;clear f3 f4 f9 f11
    obtain ⟨a2, c2, rfl⟩ := own_shape hY
    refine ⟨fun _ => ck, ?_⟩
    simp only [pv];clear hqb kp hp hN1;refine ew_as (by rfl) rfl rfl ?_;simp only [pv];refine ew_putv (by rfl) 22 _ _ rfl _ 0 rfl r9 (.slice a2 (k + 1) c2) rfl rfl rfl size1tapiat (by exact Nat.one_pos) #[.slice a2 (k + 1) c2] rfl ?_;intro wa11 hqb wb11 r9n kp;replace r3 := r3.belowAll hqb;replace r4 := r4.belowAll hqb;replace r9 := r9.belowAll hqb;replace r11 := r11.belowAll hqb
    replace hX := hX.on (Kept.ofBelow hqb) (own_ne0 _)
    replace hY := hY.on (Kept.ofBelow hqb) (own_ne0 _)
    replace sb := b_o sb hqb
    replace ck := ck.trans (Kept.ofBelow hqb) (by simp)
    refine ⟨fun h => (by cases h), ?_⟩
    simp only [Act.put]
    replace r3 := kp.row r3 (by simp <;> omega)
    replace r4 := kp.row r4 (by simp <;> omega)
    clear r9 r11
    have r9 := r9n
    replace hX := hX.on kp (own_ne1 eX9)
    replace hY := hY.on kp (own_ne1 eY9)
    replace sb := sb.trans (kp.below _ sb.size (by simp <;> omega))
    clear hqb kp ck r9n;refine ew_nil ?_;intro wz hqb;replace r3 := r3.belowAll hqb;replace r4 := r4.belowAll hqb;replace r9 := r9.belowAll hqb
    replace hX := hX.on (Kept.ofBelow hqb) (own_ne0 _)
    replace hY := hY.on (Kept.ofBelow hqb) (own_ne0 _)
    replace sb := b_o sb hqb;clear hqb
    iterate 2 go_step
    refine rp ?_;refine p_v (.int .i64 ((k + 1 : Nat) : Int)) (x_a k 1) ?_;refine p_m (pw_nil ?_);simp only [pv]
    go_wp2
    go_roundg x
    case measure => omega
    case rel => exact ⟨k + 1, _, by omega, rfl, hX, hY, r9, r3, r4, eX3, eX4, eX9, eY3, eY4, eY9, zXY, sb⟩
   ·show EW _ _ _ _ _ _ _ _
    have ck := Kept.refl (u8.ownBlock.toList ++ vy.ownBlock.toList) z6003
    have or11 := r11
    have or9 := r9
    refine e_m ?_;simp only [pv];refine e_v (.pointer (some ⟨g11, 0, none⟩)) (exec_field 48 _ 0 rfl g11 (0) rfl _ Tryz.underlying48 _ rfl 0 Tryz.sizeOf3) ?_;simp only [pv];refine ew_loadk (by rfl) 3 _ rfl _ 0 rfl (fun _ hk => (hk.row or11 nS11).r) (.int .i64 (I k)) rfl Tryz.isAgg3 ?_;simp only [pv];refine ew_loadk (by rfl) 22 _ rfl _ 0 rfl (fun _ hk => (hk.row or9 nS9).r) vy rfl Tryz.isAgg22 ?_;simp only [pv];refine e_v (.pointer (some ⟨g11, 0 + 1, none⟩)) (exec_field 48 _ 1 rfl g11 (0) rfl _ Tryz.underlying48 _ rfl 3 Tryz.sizeOf40) ?_;simp only [pv];refine ew_loadm (by rfl) 40 _ rfl _ (0 + 1) rfl (fun _ hk => (hk.row or11 nS11).r) (natC (Y k)) (sh_part _ _) _ Tryz.underlying40 rfl size_nat ?_;simp only [pv];clear or11 or9;refine ew_litr (by rfl) 22 40 1 _ rfl (natC (Y k)) ie _ Tryz.underlying22 hie hz h11 h12 [(0, .agg (natC (Y k)))] rfl (hl1 _) ?_;intro wa8 hqb gN wb8 n0 rN hb;replace r3 := r3.belowAll hqb;replace r4 := r4.belowAll hqb;replace r9 := r9.belowAll hqb;replace r11 := r11.belowAll hqb
    replace hX := hX.on (Kept.ofBelow hqb) (own_ne0 _)
    replace hY := hY.on (Kept.ofBelow hqb) (own_ne0 _)
    replace sb := b_o sb hqb
    replace ck := ck.trans (Kept.ofBelow hqb) (by simp)
    have eXN := hX.new n0
    replace r3 := r3.belowAll hb;replace r4 := r4.belowAll hb;replace r9 := r9.belowAll hb;replace r11 := r11.belowAll hb
    replace hX := hX.on (Kept.ofBelow hb) (own_ne0 _)
    replace hY := hY.on (Kept.ofBelow hb) (own_ne0 _)
    replace sb := b_o sb hb
    replace ck := ck.trans (Kept.ofBelow hb) (by simp)
    refine ⟨fun _ => ck, ?_⟩
    simp only [pv];clear hqb hb n0;refine ew_litr (by rfl) 30 3 1 _ rfl #[.int .i64 (I k)] iei _ Tryz.underlying30 hiei hzi hi1 hi2 [(0, .int .i64 (I k))] rfl (hli _) ?_;intro wa3 hqb gI wb3 n0 rI hb;replace r3 := r3.belowAll hqb;replace r4 := r4.belowAll hqb;replace r9 := r9.belowAll hqb;replace r11 := r11.belowAll hqb;replace rN := rN.belowAll hqb
    replace hX := hX.on (Kept.ofBelow hqb) (own_ne0 _)
    replace hY := hY.on (Kept.ofBelow hqb) (own_ne0 _)
    replace sb := b_o sb hqb
    replace ck := ck.trans (Kept.ofBelow hqb) (by simp)
    replace r3 := r3.belowAll hb;replace r4 := r4.belowAll hb;replace r9 := r9.belowAll hb;replace r11 := r11.belowAll hb;replace rN := rN.belowAll hb
    replace hX := hX.on (Kept.ofBelow hb) (own_ne0 _)
    replace hY := hY.on (Kept.ofBelow hb) (own_ne0 _)
    replace sb := b_o sb hb
    replace ck := ck.trans (Kept.ofBelow hb) (by simp)
    refine ⟨fun _ => ck, ?_⟩
    simp only [pv];clear hqb hb n0;refine ew_app1 (by rfl) _ _ 30 rfl w.heap.size 3 iei _ 1 8 Tryz.underlying30 hiei hzi hszi hbyi rfl (by decide) u8 (k + 1) _ rfl hX gI 1 rfl rI rfl (by simp [Value.oneCell']) (by unfold maxLen; omega) (by omega) sb.size ?_;intro wa4 hqb v1 wb4 hN1 kp hp;replace r3 := r3.belowAll hqb;replace r4 := r4.belowAll hqb;replace r9 := r9.belowAll hqb;replace r11 := r11.belowAll hqb;replace rN := rN.belowAll hqb;replace rI := rI.belowAll hqb
    replace hX := hX.on (Kept.ofBelow hqb) (own_ne0 _)
    replace hY := hY.on (Kept.ofBelow hqb) (own_ne0 _)
    replace sb := b_o sb hqb
    replace ck := ck.trans (Kept.ofBelow hqb) (by simp)
    clear rI
    have hXn : OwnE 1 3 wb4 w.heap.size v1 (k + 1 + 1) (fun j => #[.int .i64 (Zx I j)]) := by
     have := hN1
     rw [show (esC 1 (k + 1) (fun j => #[.int .i64 (Zx I j)])).toList ++ (#[.int .i64 (I k)] : Array Value).toList = (esC 1 (k + 1 + 1) (fun j => #[.int .i64 (Zx I j)])).toList from esC_snoc (C := (fun j => #[.int .i64 (Zx I j)])) (fun _ => rfl) (k + 1)] at this
     exact this
    have f3 := r3.lt
    have f4 := r4.lt
    have f9 := r9.lt
    have f11 := r11.lt
    have fN := rN.lt
    have zN := own_two hY hp zXY
    replace r3 := kp.row r3 (own_nin eX3)
    replace r4 := kp.row r4 (own_nin eX4)
    replace r9 := kp.row r9 (own_nin eX9)
    replace r11 := kp.row r11 (own_nin eX11)
    replace rN := kp.row rN (own_nin eXN)
    replace hY := hY.on kp (own_nin2 zXY)
    replace sb := sb.trans (kp.below w.heap.size sb.size hX.base)
    replace ck := ck.trans kp (fun g hg => .inl (List.mem_append_left _ hg))
    clear hX
    have hX := hXn
    clear hXn zXY
    have zXY := zN
    clear zN;replace eX3 := own_apart hp f3 eX3;replace eX4 := own_apart hp f4 eX4;replace eX9 := own_apart hp f9 eX9;replace eX11 := own_apart hp f11 eX11;replace eXN := own_apart hp fN eXN;clear f3 f4 f9 f11 fN
    refine ⟨fun _ => ck, ?_⟩
    simp only [pv];clear hqb kp hp hN1;refine ew_app1 (by rfl) _ _ 22 rfl w.heap.size 40 ie _ 4 32 Tryz.underlying22 hie hz hsz hby rfl (by decide) vy k _ rfl hY gN 1 rfl rN (natC_size _) (natC_one _) (by unfold maxLen; omega) (by omega) sb.size ?_;intro wa9 hqb v2 wb9 hN1 kp hp;replace r3 := r3.belowAll hqb;replace r4 := r4.belowAll hqb;replace r9 := r9.belowAll hqb;replace r11 := r11.belowAll hqb;replace rN := rN.belowAll hqb
    replace hX := hX.on (Kept.ofBelow hqb) (own_ne0 _)
    replace hY := hY.on (Kept.ofBelow hqb) (own_ne0 _)
    replace sb := b_o sb hqb
    replace ck := ck.trans (Kept.ofBelow hqb) (by simp)
    clear rN
    have hYn : OwnN wb9 w.heap.size v2 (k + 1) Y := by
     have := hN1
     rw [nsC_snoc] at this
     exact this
    have f3 := r3.lt
    have f4 := r4.lt
    have f9 := r9.lt
    have f11 := r11.lt
    have zN := own_sym (own_two hX hp (own_sym zXY))
    replace r3 := kp.row r3 (own_nin eY3)
    replace r4 := kp.row r4 (own_nin eY4)
    replace r9 := kp.row r9 (own_nin eY9)
    replace r11 := kp.row r11 (own_nin eY11)
    replace hX := hX.on kp (own_nin2 (own_sym zXY))
    replace sb := sb.trans (kp.below w.heap.size sb.size hY.base)
    replace ck := ck.trans kp (fun g hg => .inl (List.mem_append_right _ hg))
    clear hY
    have hY := hYn
    clear hYn zXY
    have zXY := zN
    clear zN;replace eY3 := own_apart hp f3 eY3;replace eY4 := own_apart hp f4 eY4;replace eY9 := own_apart hp f9 eY9;replace eY11 := own_apart hp f11 eY11;clear f3 f4 f9 f11
    obtain ⟨a2, c2, rfl⟩ := own_shape hY
    refine ⟨fun _ => ck, ?_⟩
    simp only [pv];clear hqb kp hp hN1;refine ew_as (by rfl) rfl rfl ?_;simp only [pv];refine ew_putv (by rfl) 22 _ _ rfl _ 0 rfl r9 (.slice a2 (k + 1) c2) rfl rfl rfl size1tapiat (by exact Nat.one_pos) #[.slice a2 (k + 1) c2] rfl ?_;intro wa11 hqb wb11 r9n kp;replace r3 := r3.belowAll hqb;replace r4 := r4.belowAll hqb;replace r9 := r9.belowAll hqb;replace r11 := r11.belowAll hqb
    replace hX := hX.on (Kept.ofBelow hqb) (own_ne0 _)
    replace hY := hY.on (Kept.ofBelow hqb) (own_ne0 _)
    replace sb := b_o sb hqb
    replace ck := ck.trans (Kept.ofBelow hqb) (by simp)
    refine ⟨fun h => (by cases h), ?_⟩
    simp only [Act.put]
    replace r3 := kp.row r3 (by simp <;> omega)
    replace r4 := kp.row r4 (by simp <;> omega)
    clear r9 r11
    have r9 := r9n
    replace hX := hX.on kp (own_ne1 eX9)
    replace hY := hY.on kp (own_ne1 eY9)
    replace sb := sb.trans (kp.below _ sb.size (by simp <;> omega))
    clear hqb kp ck r9n;refine ew_nil ?_;intro wz hqb;replace r3 := r3.belowAll hqb;replace r4 := r4.belowAll hqb;replace r9 := r9.belowAll hqb
    replace hX := hX.on (Kept.ofBelow hqb) (own_ne0 _)
    replace hY := hY.on (Kept.ofBelow hqb) (own_ne0 _)
    replace sb := b_o sb hqb;clear hqb
    iterate 2 go_step
    refine rp ?_;refine p_v (.int .i64 ((k + 1 : Nat) : Int)) (x_a k 1) ?_;refine p_m (pw_nil ?_);simp only [pv]
    go_wp2
    go_roundg x
    case measure => omega
    case rel => exact ⟨k + 1, _, by omega, rfl, hX, hY, r9, r3, r4, eX3, eX4, eX9, eY3, eY4, eY9, zXY, sb⟩
  | zero =>
   obtain rfl : k = n := by omega
   clear hk
   obtain ⟨ax, cx, gx, curx, rfl, hzs⟩ := ownE_zs hX
   obtain ⟨ay, cy, rfl⟩ := own_shape hY
   clear hX eX3 eX4 eX9 eY3 eY4 eY9 zXY
   go_step
   refine rp ?_;refine p_v (.bool false) (lt_f k k) (pw_nil ?_);simp only [pv]
   cases bad with
   | true =>
    have hw := hw1 rfl
    clear hw1 hw2 hdot hmu hgg
    iterate 8 go_step
    refine rp ?_;refine p_d 0 r3.r (.pointer v) rfl Tryz.isAgg25 ?_;refine p_m ?_;simp only [pv];refine p_c 58 Tryz.func58 #[.pointer v, .slice ax (k + 1) cx] (hw _ ax cx gx curx sb hzs) ?_;intro z9002 k;simp only [pv];replace r3 := k.ro r3;replace sb := kk sb k;clear k;refine p_m ?_;refine p_e ?_;refine p_e ?_;simp only [pv];refine pw_newv (by rfl) 100 rfl (.slice none 0 0) zero_sll rfl ?_;intro g12 z9006 n0 r12 k;simp only [pv]
    have d3x12 := l_l r3.lt n0
    have b12 := Nat.le_trans sb.size n0
    clear n0;replace r3 := k.ro r3;replace sb := kk sb k;clear k;refine pw_putv (by rfl) 100 _ _ rfl _ (0) rfl r12 (.slice none 0 0) rfl rfl rfl size1tapiat2 (by exact Nat.one_pos) (#[.slice none 0 0]) rfl ?_;clear r12;intro z9007 r12 k;simp only [Act.put];replace r3 := k.ro r3;replace sb := kk sb k;clear k;refine p_a (pw_nil ?_);simp only [pv]
    iterate 4 go_step
    refine rp ?_;refine p_m ?_;simp only [pv];refine p_v (.bool true) (exec_neq_k .i64 _ _ _ _ rfl 1 0 rfl rfl true rfl) (pw_nil ?_);simp only [pv]
    iterate 4 go_step
    refine rp ?_;refine p_m ?_;simp only [pv];refine p_v (.slice none 0 0) ((fun _ => rfl)) ?_;refine p_a (pw_nil ?_);simp only [pv]
    go_wp2
    go_ret2
    first | exact ⟨.inl ⟨rfl, rfl⟩, sb⟩ | exact ⟨rfl, sb⟩
   | false =>
    have hw := hw2 rfl
    clear hw1 hw2
    iterate 8 go_step
    refine rp ?_;refine p_d 0 r3.r (.pointer v) rfl Tryz.isAgg25 ?_;refine p_m ?_;simp only [pv];refine p_f 58 Tryz.func58 #[.pointer v, .slice ax (k + 1) cx] (hw _ ax cx gx curx sb hzs) ?_
    rintro _ z9002 ⟨gW, R, rfl, rW, hW, hb⟩
    refine ⟨_, rfl, ?_⟩
    simp only [pv]
    have k := Kept.ofBelow hb
    clear hb;replace r3 := k.ro r3;replace r4 := k.ro r4;replace r9 := k.ro r9
    replace hY := hY.on k (own_ne0 _)
    replace sb := kk sb k;clear k;refine p_m ?_;refine p_e ?_;refine p_e ?_;simp only [pv];refine pw_newv (by rfl) 100 rfl (.slice none 0 0) zero_sll rfl ?_;intro g12 z9006 n0 r12 k;simp only [pv]
    have d3x12 := l_l r3.lt n0
    have d4x12 := l_l r4.lt n0
    have d9x12 := l_l r9.lt n0
    have ehYx12 := hY.new n0
    have dWx12 := l_l rW.lt n0
    have hWx12 := fun j hj => Nat.ne_of_lt (Nat.lt_of_lt_of_le (hW.lt (j := j) hj) n0)
    have b12 := Nat.le_trans sb.size n0
    clear n0;replace r3 := k.ro r3;replace r4 := k.ro r4;replace r9 := k.ro r9
    replace hY := hY.on k (own_ne0 _)
    replace rW := k.ro rW;replace hW := hW.below k.nil;replace sb := kk sb k;clear k;refine pw_putv (by rfl) 100 _ _ rfl _ (0) rfl r12 (.slice (some ⟨gW, 0, none⟩) (k + 1) (k + 1)) rfl rfl rfl size1tapiat2 (by exact Nat.one_pos) (#[.slice (some ⟨gW, 0, none⟩) (k + 1) (k + 1)]) rfl ?_;clear r12;intro z9007 r12 k;simp only [Act.put];replace r3 := k.ro r3;replace r4 := k.ro r4;replace r9 := k.ro r9
    replace hY := hY.on k (own_ne1 ehYx12)
    replace rW := k.ro rW
    replace hW := hW.on k (fun j hj => by simpa using hWx12 j hj)
    replace sb := kk sb k;clear k;refine p_a (pw_nil ?_);simp only [pv];clear hw
    obtain ⟨_, gy, cury, hys⟩ := ownN_nats hY hY0
    clear hY
    iterate 4 go_step
    refine rp ?_;refine p_m ?_;simp only [pv];refine p_v (.bool false) (exec_neq_k .i64 _ _ _ _ rfl 0 0 rfl rfl false rfl) (pw_nil ?_);simp only [pv]
    have hto := fun w' (hb : Below w.heap.size w w') (q3 : Row w' g3 #[.pointer v] 25) (q12 : Row w' g12 #[.slice (some ⟨gW, 0, none⟩) (k + 1) (k + 1)] 100) (q9 : Row w' g9 #[.slice ay k cy] 22) (q4 : Row w' g4 (natC A) 40) (qW : Row w' gW (vsC (k + 1) (fun j => .slice (some ⟨R j, 0, none⟩) (k + 1) (k + 1))) 22) (bs : Nat) (hW' : FamAt w' bs (k + 1) R WV (k + 1)) (hy' : NatsAt w' ay k Y gy 0 cury 40) => ctold_any (k + 1) 59 #[.pointer (some ⟨g3, 0, none⟩), .pointer (some ⟨g12, 0, none⟩), .pointer (some ⟨g9, 0, none⟩), .pointer (some ⟨g4, 0, none⟩)] S w' Tryz.func59 (by kernel_rfl) (by omega) (fun j hj w2 hb2 => from1_any v ay k cy j A GG (D j) (S j) R WV g3 g12 g9 g4 gW w2 hj (by omega) (q3.belowAll hb2) (q12.belowAll hb2) (q9.belowAll hb2) (q4.belowAll hb2) (qW.belowAll hb2) ((hW'.row j hj).belowAll hb2) (fun w3 hb3 => hdot j hj w3 (R j) ay cy gy cury (below_on (below_on hb (Nat.le_refl _) hb2) (Nat.le_refl _) hb3) (((hW'.row j hj).belowAll hb2).belowAll hb3) ((hy'.below hb2).below hb3)) (fun w3 hb3 => hgg w3 (below_on (below_on hb (Nat.le_refl _) hb2) (Nat.le_refl _) hb3)) (fun w3 x y hb3 => hmu j hj w3 x y (below_on (below_on hb (Nat.le_refl _) hb2) (Nat.le_refl _) hb3)))
    clear hdot hmu hgg
    iterate 7 go_step
    refine rp ?_;refine p_m ?_;simp only [pv];refine p_v (.int .i64 ((k + 1 : Nat) : Int)) (n_l ax (k + 1) cx sl_intsX) ?_;simp only [pv];refine p_v (.func (.func 59) #[] #[.pointer (some ⟨g3, 0, none⟩), .pointer (some ⟨g12, 0, none⟩), .pointer (some ⟨g9, 0, none⟩), .pointer (some ⟨g4, 0, none⟩)]) (exec_func _ _ rfl _ rfl) ?_;simp only [pv];refine p_f 38 Tryz.func38 #[.int .i64 ((k + 1 : Nat) : Int), .func (.func 59) #[] #[.pointer (some ⟨g3, 0, none⟩), .pointer (some ⟨g12, 0, none⟩), .pointer (some ⟨g9, 0, none⟩), .pointer (some ⟨g4, 0, none⟩)]] (hto _ sb r3 r12 r9 r4 rW _ hW hys) ?_
    rintro _ z12003 ⟨gC, rfl, nC, rC, hb⟩
    refine ⟨_, rfl, ?_⟩
    simp only [pv]
    have bC := Nat.le_trans sb.size nC
    clear nC
    have k := Kept.ofBelow hb
    clear hb;replace r3 := k.ro r3;replace r12 := k.ro r12;replace r9 := k.ro r9;replace r4 := k.ro r4;replace rW := k.ro rW;replace hW := hW.below k.nil;replace hys := hys.below k.nil;replace sb := kk sb k;clear k;refine p_a ?_;refine p_v (.int .i64 0) (fun _ => rfl) (pw_nil ?_);simp only [pv]
    go_wp2
    go_ret2
    first | exact ⟨.inr ⟨rfl, gC, rfl, bC, rC⟩, sb⟩ | exact ⟨⟨gC, rfl, bC, rC⟩, sb⟩
structure GF (P Q G : Nat) : Prop where
 pP : IsP P
 pQ : IsP Q
 rP : RgQ P
 rQ : FdQ Q
 lt : G < P
 n0 : G ≠ 0
 n1 : G ≠ 1
 ord : G ^ Q % P = 1
 big : 512 ≤ Q
theorem gf_of {n : Nat} {N : Nat → Nat} {A : Nat → Int} {G : Nat} (h : grN n N A G = true) (hl : ∀ i, i < n → N i < 2 ^ 256) : GF (N (n - 1)) (N (n - 2)) G := by
 obtain ⟨h2, _, h5, h0, h1, hG, ho⟩ := (grN_iff n N A G).1 h
 obtain ⟨pP, pQ⟩ := grN_primes h
 exact ⟨pP, pQ, ⟨hl _ (by omega), isP_odd pP (by omega), pP.1⟩, ⟨⟨hl _ (by omega), isP_odd pQ (by omega), pQ.1⟩, pQ⟩, hG, h0, h1, ho, h5⟩
def cAt (P : Nat) (C : Nat → Nat) (n : Nat) (i : Int) : Nat := if 0 ≤ i ∧ i ≤ 7 ∧ n ≤ 7 then prd (fun j => C j ^ (i.toNat ^ j)) n % P else 0
def cMay (P Q : Nat) (C : Nat → Nat) (n : Nat) : Bool := decide (1 ≤ n) && decide (n ≤ 7) && !anB (fun k => !memN P Q (C k)) n
def cHol (P Q G : Nat) (C : Nat → Nat) (n : Nat) (i : Int) (Y : Nat) : Bool := decide (1 ≤ i) && decide (i ≤ 7) && decide (Y < Q) && (decide (G ^ Y % P = cAt P C n i) && cMay P Q C n)
theorem cAt_lt {P : Nat} (h : 2 ≤ P) (C : Nat → Nat) (n : Nat) (i : Int) : cAt P C n i < P := by
 unfold cAt
 split
 ·exact Nat.mod_lt _ (by omega)
 ·omega
section
variable {Q : Nat} [NeZero Q] {g gr gf P G : Nat} {w : World} {ab : Option Addr} {n c : Nat} {C : Nat → Nat} {gb ob : Nat} {bcs : Array Value} {tb : TypeId}
theorem cat_any (f : GF P Q G) (h : GrpAt w g gr gf P Q G) (hna : NatsAt w ab n C gb ob bcs tb) (i : Int) :
  Calls Tryz.prog 16 #[.pointer (some ⟨g, 0, none⟩), .slice ab n c, .int .i64 i] w fun e w' => e = .returned (.agg (natC (cAt P C n i))) ∧ Below w.heap.size w w' := by
 by_cases hh : 0 ≤ i ∧ i ≤ 7 ∧ n ≤ 7
 ·obtain ⟨k, rfl⟩ : ∃ k : Nat, i = k := ⟨i.toNat, by omega⟩
  have e : cAt P C n (k : Nat) = prd (fun j => C j ^ (k ^ j)) n % P := by
   unfold cAt
   rw [if_pos hh, Int.toNat_natCast]
  rw [e]
  refine at_core _ ab n c k _ 0 w hh.2.2 (by omega) fun w' gE hb rE => ?_
  exact qMulti_ok g gr gf P Q G n c n ab (some ⟨gE, 0, none⟩) C (fun j => k ^ j) gb ob gE 0 bcs _ tb _ w' (by omega) (hna.below hb) (nats_row rE (fun j hj => Nat.lt_trans (pow7 (show k ≤ 7 by omega) (show j ≤ 7 by omega)) (by decide))) f.rP (h.below hb)
 ·have e : cAt P C n i = 0 := if_neg hh
  rw [e]
  exact at_no _ ab n c i w (by omega)
theorem cmay_any (f : GF P Q G) (h : GrpAt w g gr gf P Q G) (hna : NatsAt w ab n C gb ob bcs tb) :
  Calls Tryz.prog 14 #[.pointer (some ⟨g, 0, none⟩), .slice ab n c] w fun e w' => e = .returned (.bool (cMay P Q C n)) ∧ Below w.heap.size w w' := by
 unfold cMay
 by_cases h1 : 1 ≤ n
 ·by_cases h7 : n ≤ 7
  ·rw [decide_eq_true h1, decide_eq_true h7, Bool.true_and, Bool.true_and]
   exact may_core _ ab n c C _ gb ob bcs tb w h1 h7 hna fun k hk w' hb => qIn_ok (C k) g gr gf P Q G w' (hna.lt k hk) f.rQ.m f.rP (h.below hb)
  ·rw [decide_eq_false h7, Bool.and_false, Bool.false_and]
   exact may_no _ ab n c w (by omega)
 ·rw [decide_eq_false h1, Bool.false_and, Bool.false_and]
  exact may_no _ ab n c w (by omega)
theorem chol_any (f : GF P Q G) (h : GrpAt w g gr gf P Q G) (hna : NatsAt w ab n C gb ob bcs tb) (i : Int) (Y : Nat) (hY : Y < 2 ^ 256) :
  Calls Tryz.prog 21 #[.pointer (some ⟨g, 0, none⟩), .slice ab n c, .agg (shC i Y)] w fun e w' => e = .returned (.bool (cHol P Q G C n i Y)) ∧ Below w.heap.size w w' := by
 unfold cHol
 by_cases h1 : 1 ≤ i
 ·by_cases h7 : i ≤ 7
  ·rw [decide_eq_true h1, decide_eq_true h7, Bool.true_and, Bool.true_and]
   have hin := fun w' (hb : Below w.heap.size w w') => fIn_ok Y g gr gf P Q G w' hY f.rQ (h.below hb)
   by_cases hq : Y < Q
   ·rw [decide_eq_true hq] at hin ⊢
    rw [Bool.true_and]
    have hc := holds_core _ ab n c Y (G ^ Y % P) (cAt P C n i) (cMay P Q C n) i w h1 h7 hin (fun w' hb => qOf_ok Y g gr gf P Q G w' hY (Nat.lt_trans f.lt f.rP.m) f.rP (h.below hb)) (fun w' hb => cat_any f (h.below hb) (hna.below hb) i) (fun w' hb => cmay_any f (h.below hb) (hna.below hb))
    rw [Nat.mod_eq_of_lt (Nat.lt_trans (Nat.mod_lt _ (show 0 < P by have := f.rP.two; omega)) f.rP.m), Nat.mod_eq_of_lt (Nat.lt_trans (cAt_lt f.rP.two C n i) f.rP.m)] at hc
    exact hc
   ·rw [decide_eq_false hq] at hin ⊢
    rw [Bool.false_and]
    exact holds_fld _ ab n c Y i w h1 h7 hin
  ·rw [decide_eq_false h7, Bool.and_false, Bool.false_and, Bool.false_and]
   exact holds_out _ ab n c Y i w (by omega)
 ·rw [decide_eq_false h1, Bool.false_and, Bool.false_and, Bool.false_and]
  exact holds_out _ ab n c Y i w (by omega)
def Zn (I : Nat → Nat) : Nat → Nat
 | 0 => 0
 | j + 1 => I j
theorem Zx_n (I : Nat → Nat) : ∀ j, Zx (fun k => ((I k : Nat) : Int)) j = ((Zn I j : Nat) : Int)
 | 0 => rfl
 | _ + 1 => rfl
def frS (P Q G A : Nat) (W : Nat → Nat → Nat) (Y : Nat → Nat) (n j : Nat) : Nat := A ^ W j 0 * G ^ dotN (fun i => W j (i + 1)) Y Q n % P
theorem prd_two (A B a b P : Nat) : prd (fun i => two2 A B i ^ two2 a b i) 2 % P = A ^ a * B ^ b % P := by
 show (1 * A ^ a) * B ^ b % P = _
 rw [Nat.one_mul]
variable {A : Nat} {I : Nat → Int} {Y : Nat → Nat}
theorem cfrom_mem (f : GF P Q G) (h : GrpAt w g gr gf P Q G) (hA : A < 2 ^ 256) (hn : 7 ≤ n ∨ memN P Q A = false) :
  Calls Tryz.prog 28 #[.pointer (some ⟨g, 0, none⟩), .agg (natC A), .slice ab n c] w fun e w' => e = .returned (.tuple #[.slice none 0 0, .int .i64 1]) ∧ Below w.heap.size w w' := by
 by_cases h7 : 7 ≤ n
 ·exact from_many _ ab A n c w h7
 ·have hm := hn.resolve_left h7
  refine from_mem _ ab A n c w (by omega) fun w' hb => ?_
  have := qIn_ok A g gr gf P Q G w' hA f.rQ.m f.rP (h.below hb)
  rw [hm] at this
  exact this
theorem cfrom_arg (f : GF P Q G) (h : GrpAt w g gr gf P Q G) (hA : A < 2 ^ 256) (hn : n < 7) (hm : memN P Q A = true) (hY : ∀ k, k < n → Y k < 2 ^ 256) (hna : ElsAt 5 w ab n (fun k => shC (I k) (Y k)) gb ob bcs tb) (hI : apB 0 (Zx I) (n + 1) = false) :
  Calls Tryz.prog 28 #[.pointer (some ⟨g, 0, none⟩), .agg (natC A), .slice ab n c] w fun e w' => e = .returned (.tuple #[.slice none 0 0, .int .i64 1]) ∧ Below w.heap.size w w' := by
 have hin : ∀ w', Below w.heap.size w w' → Calls Tryz.prog 43 #[.pointer (some ⟨g, 0, none⟩), .agg (natC A)] w' fun e w2 => e = .returned (.bool true) ∧ Below w'.heap.size w' w2 := fun w' hb => hm ▸ qIn_ok A g gr gf P Q G w' hA f.rQ.m f.rP (h.below hb)
 have hdl : ∀ j, dotN (fun i => (fun _ _ => 0 : Nat → Nat → Nat) j (i + 1)) Y Q n < 2 ^ 256 := fun j => Nat.lt_trans (dotN_lt _ _ Q f.rQ.pos _) f.rQ.m
 refine (from_core true (some ⟨g, 0, none⟩) ab A n c G I Y (fun j => dotN (fun i => 0) Y Q n) (fun j => A ^ 0 * G ^ dotN (fun i => 0) Y Q n % P) (fun _ _ => 0) gb ob bcs tb w hn hY hna hin (fun _ w' ax cx gx cur hb hz => wts_arg (n + 1) cx ax (Zx I) gx 0 cur _ (by omega) hz (h.below hb) hI) (fun e => by cases e) (fun j hj w' rj ay cy gy cur hb r hy => ?_) (fun w' hb => grpG_any _ _ _ _ _ _ w' (h.below hb).kn) (fun j hj w' x y hb rx ry => ?_)).mono ?_
 ·refine fDot_ok g gr gf P Q G n n cy (some ⟨rj, oOf n, none⟩) ay (fun _ => 0) Y rj (oOf n) gy 0 (nsC (n + 1) fun _ => 0) cur 40 40 w' f.rQ (by omega) ?_ hy (h.below hb)
  by_cases e : n = 0
  ·exact ⟨.inl e, fun _ _ => by decide⟩
  ·have ho : oOf n = 0 + 1 * 4 := if_neg (by omega)
   rw [ho]
   exact ⟨.inr ⟨rfl, r.r, fun i hi => nsC_part (n + 1) (fun _ => 0) (i + 1) (by omega) _ (by omega)⟩, fun _ _ => by decide⟩
 ·have := qMulti_ok g gr gf P Q G 2 2 2 (some ⟨x, 0, none⟩) (some ⟨y, 0, none⟩) (two2 A G) (two2 0 (dotN (fun i => 0) Y Q n)) x 0 y 0 _ _ _ _ w' (by decide) (nats_two rx hA (Nat.lt_trans f.lt f.rP.m)) (nats_two ry (by decide) (hdl 0)) f.rP (h.below hb)
  rw [prd_two] at this
  exact this
 ·rintro e w' ⟨h1 | ⟨h1, _⟩, hb⟩
  ·exact ⟨h1.2, hb⟩
  ·cases h1
theorem ap_fi (f : GF P Q G) {J : Nat → Nat} {m : Nat} (hI : apB 0 (fun k => ((J k : Nat) : Int)) m = true) (i j : Nat) (hi : i < m) (hj : j < m) (hne : i ≠ j) : (fi (J i) : Fin Q) ≠ fi (J j) := fun e => by
 obtain ⟨h1, h2⟩ := (apB_iff _ _ _).1 hI
 have hb := f.big
 have a1 : ((J i : Nat) : Int) ≤ 7 := (h1 i hi).2
 have a2 : ((J j : Nat) : Int) ≤ 7 := (h1 j hj).2
 have e2 := fi_inj e (by omega) (by omega)
 rcases Nat.lt_or_gt_of_ne hne with h | h
 ·exact h2 i j h hj (by rw [e2])
 ·exact h2 j i h hi (by rw [e2])
theorem cfrom_ok (f : GF P Q G) {I : Nat → Nat} (h : GrpAt w g gr gf P Q G) (hA : A < 2 ^ 256) (hn : n < 7) (hm : memN P Q A = true) (hY : ∀ k, k < n → Y k < 2 ^ 256) (hna : ElsAt 5 w ab n (fun k => shC ((I k : Nat) : Int) (Y k)) gb ob bcs tb) (hI : apB 0 (fun k => ((Zn I k : Nat) : Int)) (n + 1) = true) :
  Calls Tryz.prog 28 #[.pointer (some ⟨g, 0, none⟩), .agg (natC A), .slice ab n c] w fun e w' => ∃ gC, e = .returned (.tuple #[.slice (some ⟨gC, 0, none⟩) (n + 1) (n + 1), .int .i64 0]) ∧ w.heap.size ≤ gC ∧ Row w' gC (nsC (n + 1) (frS P Q G A (wtV (Q := Q) (Zn I) (n + 1) (n + 1) 0) Y n)) 40 ∧ Below w.heap.size w w' := by
 have hin : ∀ w', Below w.heap.size w w' → Calls Tryz.prog 43 #[.pointer (some ⟨g, 0, none⟩), .agg (natC A)] w' fun e w2 => e = .returned (.bool true) ∧ Below w'.heap.size w' w2 := fun w' hb => hm ▸ qIn_ok A g gr gf P Q G w' hA f.rQ.m f.rP (h.below hb)
 have hwl : ∀ a b, wtV (Q := Q) (Zn I) (n + 1) (n + 1) 0 a b < 2 ^ 256 := fun a b => by
  unfold wtV
  split
  ·exact Nat.lt_trans (pco _ a).isLt f.rQ.m
  ·decide
 have h1 := ((apB_iff _ _ _).1 hI).1
 refine (from_core false (some ⟨g, 0, none⟩) ab A n c G (fun k => ((I k : Nat) : Int)) Y (fun j => dotN (fun i => wtV (Q := Q) (Zn I) (n + 1) (n + 1) 0 j (i + 1)) Y Q n) (frS P Q G A (wtV (Q := Q) (Zn I) (n + 1) (n + 1) 0) Y n) (wtV (Q := Q) (Zn I) (n + 1) (n + 1) 0) gb ob bcs tb w hn hY hna hin (fun e => by cases e) (fun _ w' ax cx gx cur hb hz => ?_) (fun j hj w' rj ay cy gy cur hb r hy => ?_) (fun w' hb => grpG_any _ _ _ _ _ _ w' (h.below hb).kn) (fun j hj w' x y hb rx ry => ?_)).mono ?_
 ·exact wts_any (n + 1) cx ax (Zn I) gx 0 cur _ f.rQ (by omega) (fun k hk => by have := (h1 k hk).2; omega) (ap_fi f hI) (hz.congr fun j _ => Zx_n I j) (h.below hb) hI
 ·refine fDot_ok g gr gf P Q G n n cy (some ⟨rj, oOf n, none⟩) ay (fun i => wtV (Q := Q) (Zn I) (n + 1) (n + 1) 0 j (i + 1)) Y rj (oOf n) gy 0 (nsC (n + 1) (wtV (Q := Q) (Zn I) (n + 1) (n + 1) 0 j)) cur 40 40 w' f.rQ (by omega) ?_ hy (h.below hb)
  by_cases e : n = 0
  ·exact ⟨.inl e, fun _ _ => hwl _ _⟩
  ·have ho : oOf n = 0 + 1 * 4 := if_neg (by omega)
   rw [ho]
   exact ⟨.inr ⟨rfl, r.r, fun i hi => nsC_part (n + 1) (wtV (Q := Q) (Zn I) (n + 1) (n + 1) 0 j) (i + 1) (by omega) _ (by omega)⟩, fun _ _ => hwl _ _⟩
 ·have := qMulti_ok g gr gf P Q G 2 2 2 (some ⟨x, 0, none⟩) (some ⟨y, 0, none⟩) (two2 A G) (two2 (wtV (Q := Q) (Zn I) (n + 1) (n + 1) 0 j 0) (dotN (fun i => wtV (Q := Q) (Zn I) (n + 1) (n + 1) 0 j (i + 1)) Y Q n)) x 0 y 0 _ _ _ _ w' (by decide) (nats_two rx hA (Nat.lt_trans f.lt f.rP.m)) (nats_two ry (hwl _ _) (Nat.lt_trans (dotN_lt _ _ Q f.rQ.pos _) f.rQ.m)) f.rP (h.below hb)
  rw [prd_two] at this
  exact this
 ·rintro e w' ⟨⟨h2, _⟩ | ⟨_, gC, rfl, h3, h4⟩, hb⟩
  ·cases h2
  ·exact ⟨gC, rfl, h3, h4, hb⟩
theorem dot_sm (a b : Nat → Nat) (q : Nat) : ∀ n, dotN a b q n = smA (fun i => a i * b i) n % q
 | 0 => (Nat.zero_mod q).symm
 | n + 1 => by
  show (dotN a b q n + a n * b n % q) % q = (smA (fun i => a i * b i) n + a n * b n) % q
  rw [dot_sm a b q n, ← Nat.add_mod]
theorem pev_0 (L : List (Fin Q)) : pev (fi 0) L = pco L 0 := by
 cases L with
 | nil => rfl
 | cons a l =>
  show a + fi 0 * pev (fi 0) l = a
  rw [fi_zero]
  grind
theorem fr_is (f : GF P Q G) {I : Nat → Nat} {n : Nat} {Y : Nat → Nat} (hI : apB 0 (fun k => ((Zn I k : Nat) : Int)) (n + 1) = true) (L : List (Fin Q)) (hl : L.length ≤ n + 1) (hY : ∀ i, i < n → Y i = (pev (fi (I i)) L).val) (j : Nat) :
  frS P Q G (G ^ (pco L 0).val % P) (wtV (Q := Q) (Zn I) (n + 1) (n + 1) 0) Y n j = G ^ (pco L j).val % P := by
 have hw : ∀ i, i < n + 1 → wtV (Q := Q) (Zn I) (n + 1) (n + 1) 0 j i = (pco (wtP (Zn I) (n + 1) i : List (Fin Q)) j).val := fun i hi => if_pos (.inl hi)
 have h := co_from (q := Q) f.rP.two f.ord (fun i => wtV (Q := Q) (Zn I) (n + 1) (n + 1) 0 j i) (fun i => (pev (fi (Zn I i)) L).val) n (pco L j) (by
  rw [wt_of f.rQ (Zn I) (n + 1) (ap_fi f hI) L hl j]
  exact psm_congr _ _ _ fun i hi => by
   show pco (wtP (Zn I) (n + 1) i) j * pev (fi (Zn I i)) L = fi (wtV (Q := Q) (Zn I) (n + 1) (n + 1) 0 j i) * fi (pev (fi (Zn I i)) L).val
   rw [hw i hi, fi_of, fi_of])
 rw [← h]
 have h0 : (pev (fi (Zn I 0)) L).val = (pco L 0).val := congrArg Fin.val (pev_0 L)
 have hd : dotN (fun i => wtV (Q := Q) (Zn I) (n + 1) (n + 1) 0 j (i + 1)) Y Q n = smA (fun i => wtV (Q := Q) (Zn I) (n + 1) (n + 1) 0 j (i + 1) * (pev (fi (Zn I (i + 1))) L).val) n % Q := by
  rw [dot_sm]
  congr 1
  have : ∀ m, m ≤ n → smA (fun i => wtV (Q := Q) (Zn I) (n + 1) (n + 1) 0 j (i + 1) * Y i) m = smA (fun i => wtV (Q := Q) (Zn I) (n + 1) (n + 1) 0 j (i + 1) * (pev (fi (Zn I (i + 1))) L).val) m := fun m => by
   induction m with
   | zero => intro _; rfl
   | succ m ih =>
    intro hm
    show smA _ m + _ * Y m = smA _ m + _
    rw [ih (by omega), hY m (by omega)]
    rfl
  exact this n (Nat.le_refl n)
 show (G ^ (pco L 0).val % P) ^ wtV (Q := Q) (Zn I) (n + 1) (n + 1) 0 j 0 * G ^ dotN (fun i => wtV (Q := Q) (Zn I) (n + 1) (n + 1) 0 j (i + 1)) Y Q n % P = (G ^ (pev (fi (Zn I 0)) L).val % P) ^ wtV (Q := Q) (Zn I) (n + 1) (n + 1) 0 j 0 % P * (G ^ (smA (fun i => wtV (Q := Q) (Zn I) (n + 1) (n + 1) 0 j (i + 1) * (pev (fi (Zn I (i + 1))) L).val) n % Q) % P) % P
 rw [h0, ← hd, ← Nat.mul_mod]
theorem hol_is (f : GF P Q G) (L : List (Fin Q)) (n : Nat) (h1 : 1 ≤ n) (h7 : n ≤ 7) (hl : L.length ≤ n) (i Y : Nat) (hi1 : 1 ≤ i) (hi7 : i ≤ 7) : cHol P Q G (fun k => G ^ (pco L k).val % P) n (i : Nat) Y = decide (Y = (pev (fi i) L).val) := by
 have hm : cMay P Q (fun k => G ^ (pco L k).val % P) n = true := by
  unfold cMay
  rw [decide_eq_true h1, decide_eq_true h7, Bool.true_and, Bool.true_and]
  have : anB (fun k => !memN P Q (G ^ (pco L k).val % P)) n = false := Bool.eq_false_iff.2 fun h => by
   obtain ⟨k, _, hk⟩ := (anB_iff _ _).1 h
   rw [mem_yes f.rP.two f.ord] at hk
   cases hk
  rw [this]; rfl
 have ha : cAt P (fun k => G ^ (pco L k).val % P) n (i : Nat) = prd (fun j => (G ^ (pco L j).val % P) ^ (i ^ j)) n % P := by
  unfold cAt
  rw [if_pos ⟨by omega, by omega, h7⟩, Int.toNat_natCast]
 have hL : ∀ k, pco (fl n (fun k => (pco L k).val) : List (Fin Q)) k = pco L k := fun k => by
  by_cases hk : k < n
  ·rw [fl_co _ _ _ hk, fi_of]
  ·rw [fl_out _ _ _ (by omega), pco_out _ _ (by omega)]
 unfold cHol
 rw [hm, ha, decide_eq_true (show (1 : Int) ≤ (i : Nat) by omega), decide_eq_true (show ((i : Nat) : Int) ≤ 7 by omega), Bool.true_and, Bool.true_and, Bool.and_true]
 have hv : (pev (fi i) L).val < Q := (pev (fi i) L).isLt
 by_cases hy : Y < Q
 ·rw [decide_eq_true hy, Bool.true_and]
  have := co_holds (q := Q) f.pP f.pQ f.n0 f.n1 f.lt f.ord (fun k => (pco L k).val) n i Y hy
  rw [pev_congr _ _ hL] at this
  exact decide_eq_decide.2 this
 ·rw [decide_eq_false hy, Bool.false_and]
  exact (decide_eq_false (by omega)).symm
end
theorem row_ne {w : World} {g g' : Nat} {c c' : Array Value} {t t' : TypeId} (h : Row w g c t) (h' : Row w g' c' t') (ht : t ≠ t') : g ≠ g' := fun e => by
 subst e
 have := Option.some.inj (h.symm.trans h')
 simp only [Obj.cells.injEq] at this
 exact ht this.2.1
theorem ret_vrv {P : Program} {fn : Func} {R : Ending → World → Prop} {a : Act} {w : World} {u p x : Tmp} {ty : TypeId} (hf : fn.results = #[.tmp u, .cell p ty, .tmp x]) (v : Value) (hv : a.tmps.getD u undef = v) (g : Nat) (hp : a.tmps.getD p undef = .pointer (some ⟨g, 0, none⟩))
  {t : TypeId} {cs : Array Value} (hr : Row w g cs t) (fs : Array Field) (hu : P.underlying ty = some (.struct fs)) (hi : (P.info? ty).map (·.size) = some cs.size) (y : Value) (hy : a.tmps.getD x undef = y) (hd : a.defers = [])
  (h : R (.returned (.tuple #[v, .agg cs, y])) w) : bodyPost P fn R .ret a w := by
 refine bodyPost_ret (v := .tuple #[v, .agg cs, y]) ?_ hd h
 have h1 := run_loadVar_row w g t ty cs (0, 0) _ hr hu rfl hi
 rw [Array.getD_eq_getD_getElem?] at hp hv hy
 simp [results, hf, hp, hv, hy, Sem.run_bind, asAddr, h1]
theorem of14_any (n : Nat) (w : World) (h : (n : Int) < 9223372036854775808) :
  Calls Tryz.prog 17 #[.int .i64 n] w fun e w' => e = .returned (.agg (natC n)) ∧ Below w.heap.size w w' := by
 have hin := fun w' => rint_any (n : Int) w' h
 rw [Int.toNat_natCast] at hin
 clear h
 go_enter Tryz.func17, Tryz.ntmps17
 iterate 2 go_step
 refine rp ?_;refine pw_new (by rfl) 40 rfl _ zero_nat ?_;intro g2 z0 n0 r2 k;simp only [pv]
 have b2 : w.heap.size ≤ g2 := n0
 clear n0
 have sb := k_b k
 clear k;refine pw_nil ?_
 iterate 3 go_step
 refine rp ?_;refine p_m ?_;simp only [pv];refine p_c 47 Tryz.func47 #[.int .i64 n] (hin _) ?_;intro z1001 k;simp only [pv];replace r2 := k.ro r2;replace sb := kk sb k;clear k;refine p_p r2 n ?_;clear r2;intro z1002 r2 k;simp only [Act.put];replace sb := kk sb k;clear k;refine pw_nil ?_
 go_wp2
 exact ret_row rfl _ rfl r2 4 _ Tryz.underlying40 (by exact size_nat) rfl ⟨rfl, sb⟩
theorem sml14_core (a0 : Int) (GG PP QQ : Nat) (LK : Array Value) (w : World)
  (hpk : ∀ w', Calls Tryz.prog 33 #[.int .i64 a0] w' fun e w2 => ∃ g, e = .returned (.agg (paC (some ⟨g, 0, none⟩) 3 3 GG)) ∧ w'.heap.size ≤ g ∧ Row w2 g LK 98 ∧ Below w'.heap.size w' w2)
  (hnw : ∀ w' x, Row w' x LK 98 → Calls Tryz.prog 23 #[.agg (paC (some ⟨x, 0, none⟩) 3 3 GG)] w' fun e w2 => ∃ g gr gf, e = .returned (.tuple #[.pointer (some ⟨g, 0, none⟩), .int .i64 0]) ∧ GrpAt w2 g gr gf PP QQ GG ∧ Below w'.heap.size w' w2)
  (hof : ∀ w' x, Row w' x LK 98 → Calls Tryz.prog 34 #[.agg (paC (some ⟨x, 0, none⟩) 3 3 GG)] w' (Rt (.agg (smC (PP : Nat) (QQ : Nat) (GG : Nat))) w')) :
  Calls Tryz.prog 10 #[.int .i64 a0] w fun e w' => ∃ g gr gf, e = .returned (.tuple #[.pointer (some ⟨g, 0, none⟩), .agg (smC (PP : Nat) (QQ : Nat) (GG : Nat)), .bool true]) ∧ GrpAt w' g gr gf (PP) (QQ) (GG) ∧ Below w.heap.size w w' := by
 go_enter Tryz.func10, Tryz.ntmps10
 have sb := sbmk w
 iterate 2 go_step
 refine rp ?_;refine p_v (.pointer none) (fun _ => rfl) ?_;simp only [pv];refine pw_new (by rfl) 27 rfl _ zero_sm ?_;intro g3 z1 n0 r3 k;simp only [pv]
 have b3 := Nat.le_trans sb.size n0
 clear n0;replace sb := kk sb k;clear k;refine p_v (.bool false) (fun _ => rfl) (pw_nil ?_);simp only [pv]
 iterate 3 go_step
 refine rp ?_;refine p_m ?_;simp only [pv];refine p_f 33 Tryz.func33 #[.int .i64 a0] (hpk _) ?_
 rintro _ z1001 ⟨gL, rfl, nL, rL, hb⟩
 refine ⟨_, rfl, ?_⟩
 simp only [pv]
 have d3xL := l_l r3.lt nL
 clear nL
 have k := Kept.ofBelow hb
 clear hb;replace r3 := k.ro r3;replace sb := kk sb k;clear k;refine pw_new (by rfl) 56 rfl _ zero_pa ?_;intro g5 z1002 n0 r5 k;simp only [pv]
 have d3x5 := l_l r3.lt n0
 have dLx5 := l_l rL.lt n0
 have b5 := Nat.le_trans sb.size n0
 clear n0;replace r3 := k.ro r3;replace rL := k.ro rL;replace sb := kk sb k;clear k;refine pw_put (by rfl) 56 _ _ rfl _ rfl r5 (paC (some ⟨gL, 0, none⟩) 3 3 GG) rfl (by exact size_pa) (by rfl) (pa_one _ _ _ _) ?_;clear r5;intro z1003 r5 k;simp only [Act.put];replace r3 := k.ro r3;replace rL := k.ro rL;replace sb := kk sb k;clear k;refine pw_nil ?_
 iterate 3 go_step
 refine rp ?_;refine pw_loadm (by rfl) 56 _ rfl _ 0 rfl r5.r _ (part_all _) _ Tryz.underlying56 rfl size_pa ?_;simp only [pv];refine p_f 23 Tryz.func23 #[.agg (paC (some ⟨gL, 0, none⟩) 3 3 GG)] (hnw _ gL rL) ?_
 rintro _ z2001 ⟨g, gr, gf, rfl, ⟨rG, rR, rF⟩, hb⟩
 refine ⟨_, rfl, ?_⟩
 simp only [pv]
 have k := Kept.ofBelow hb
 clear hb;replace r3 := k.ro r3;replace r5 := k.ro r5;replace rL := k.ro rL;replace sb := kk sb k;clear k;refine p_m ?_;refine p_e ?_;refine p_e ?_;refine p_a ?_;refine p_a (pw_nil ?_);simp only [pv]
 have dG : g ≠ g3 := row_ne rG r3 (by decide)
 have dR : gr ≠ g3 := row_ne rR r3 (by decide)
 have dF : gf ≠ g3 := row_ne rF r3 (by decide)
 iterate 3 go_step
 refine rp ?_;refine p_m ?_;simp only [pv];refine pw_loadm (by rfl) 56 _ rfl _ 0 rfl r5.r _ (part_all _) _ Tryz.underlying56 rfl size_pa ?_;simp only [pv];refine p_c 34 Tryz.func34 #[.agg (paC (some ⟨gL, 0, none⟩) 3 3 GG)] (hof _ gL rL) ?_;intro z3002 k;simp only [pv];replace r3 := k.ro r3;replace r5 := k.ro r5;replace rL := k.ro rL;replace rG := k.ro rG;replace rR := k.ro rR;replace rF := k.ro rF;replace sb := kk sb k;clear k;refine p_m ?_;simp only [pv];refine p_v (.bool true) (exec_eql_k .i64 _ _ _ _ rfl 0 0 rfl rfl true rfl) ?_;refine p_a ?_;simp only [pv];refine pw_put (by rfl) 27 _ _ rfl _ rfl r3 (smC (PP : Nat) (QQ : Nat) (GG : Nat)) rfl (by exact size_sm) (by rfl) (sm_one _ _ _) ?_;clear r3;intro z3006 r3 k;simp only [Act.put];replace r5 := k.ro r5;replace rL := k.ro rL;replace rG := k.ro rG;replace rR := k.ro rR;replace rF := k.ro rF;replace sb := kk sb k;clear k;refine p_a (pw_nil ?_);simp only [pv]
 go_wp2
 exact ret_vrv rfl _ rfl _ rfl r3 _ Tryz.underlying27 size_sm _ rfl rfl ⟨g, gr, gf, rfl, ⟨rG, rR, rF⟩, sb⟩
theorem smF (a0 : Int) : GF (smP a0) (smQ a0) (smG a0) ∧ smP a0 < 4611686018427387904 ∧ smQ a0 < 4611686018427387904 := by
 obtain ⟨his, hlt, hG, hq62⟩ := pk2_gr (pkB a0)
 exact ⟨gf_of his hlt, (pk2_p (pkB a0)).1, hq62⟩
theorem sml14_any (a0 : Int) (w : World) :
  Calls Tryz.prog 10 #[.int .i64 a0] w fun e w' => ∃ g gr gf, e = .returned (.tuple #[.pointer (some ⟨g, 0, none⟩), .agg (smC (smP a0 : Nat) (smQ a0 : Nat) (smG a0 : Nat)), .bool true]) ∧ GrpAt w' g gr gf (smP a0) (smQ a0) (smG a0) ∧ Below w.heap.size w w' := by
 obtain ⟨his, hlt, hG, hq62⟩ := pk2_gr (pkB a0)
 obtain ⟨hp62, hg62⟩ := pk2_p (pkB a0)
 exact sml14_core a0 (smG a0) (smP a0) (smQ a0) (lksC 3 (lN (pk2 (pkB a0) otL leL)) twoA) w (rpick_any a0) (fun w' x r => gnew_yes 3 3 (some ⟨x, 0, none⟩) (pk2 (pkB a0) otG leG) _ _ x 0 _ _ w' (by decide) hG (lks_links r hlt) his) (fun w' x r => rof9_any x _ _ (pk2 (pkB a0) otG leG) w' r hlt (Nat.lt_trans hp62 (by decide)) (Nat.lt_trans hq62 (by decide)) (Nat.lt_trans hg62 (by decide)))
theorem le_gf : GF 1055500680322183127 1966023127 leG := gf_of least_is le_lt
def coF : List (Fin 1966023127) := [fi 5, fi 2]
theorem lit_sh1 (i : Int) (y k : Nat) (hk : k = 5) : Instr.fill (fun i => some (i * k, k)) ((Array.range (1 * k)).map ((Value.agg #[.int .i64 0, .int .u64 0, .int .u64 0, .int .u64 0, .int .u64 0]).cells[· % (Value.agg #[.int .i64 0, .int .u64 0, .int .u64 0, .int .u64 0, .int .u64 0]).cells.size]!)) [(0, .agg (shC i y))] = some (shC i y) := by
 subst hk
 unfold shC natC
 generalize lm y 0 = a0
 generalize lm y 1 = a1
 generalize lm y 2 = a2
 generalize lm y 3 = a3
 kernel_rfl
theorem co_ap : apB 0 (fun k => ((Zn (fun _ => 3) k : Nat) : Int)) (1 + 1) = true := by decide
theorem co_at0 (C : Nat → Nat) (P : Nat) (h : C 0 < P) : cAt P C 2 0 = C 0 := by
 unfold cAt
 rw [if_pos (by decide)]
 show (1 * C 0 ^ (0 ^ 0)) * C 1 ^ (0 ^ 1) % P = C 0
 rw [Nat.pow_zero, Nat.pow_one, Nat.pow_one, Nat.pow_zero, Nat.one_mul, Nat.mul_one, Nat.mod_eq_of_lt h]
theorem awake14_any (w : World) :
  Calls Tryz.prog 9 #[] w fun e w' => e = .returned (.bool true) ∧ Below w.heap.size w w' := by
 obtain ⟨ien, hien, hzn, hszn, _⟩ := info_nat'
 obtain ⟨ie, hie, hz, hsz, _⟩ := info_shb
 have h21 : ¬ 2 * ien.size > 2 ^ 24 := by rw [hszn]; decide
 have h22 : ¬ 2 * ien.size = 0 := by rw [hszn]; decide
 have hs1 : ¬ 1 * ie.size > 2 ^ 24 := by rw [hsz]; decide
 have hs2 : ¬ 1 * ie.size = 0 := by rw [hsz]; decide
 have hl2 := fun A B => lit_two A B ien.size hszn
 have hlS := lit_sh1 3 11 ie.size hsz
 have hsm := fun w' => sml14_any 0 w'
 rw [sm_0.1, sm_0.2.1, sm_0.2.2] at hsm
 obtain ⟨CF, hCF⟩ : ∃ CF : Nat → Nat, CF = fun k => leG ^ (pco coF k).val % 1055500680322183127 := ⟨_, rfl⟩
 have hc0 : CF 0 = leG ^ 5 % 1055500680322183127 := by rw [hCF]; rfl
 have hcl : ∀ k, CF k < 1055500680322183127 := fun k => by rw [hCF]; exact Nat.mod_lt _ (by decide)
 have hcb : ∀ k, CF k < 2 ^ 256 := fun k => Nat.lt_trans (hcl k) (by decide)
 have hto := fun w' g gr gf (h : GrpAt w' g gr gf 1055500680322183127 1966023127 leG) gU (rU : Row w' gU (natC 5 ++ natC 2) 40) => to_ok (some ⟨gU, 0, none⟩) 2 2 coF 2 (by decide) (by decide) (by decide) le_gf.rQ le_gf.rP (by decide) h (lit2_pl rU (by decide) (by decide))
 rw [← hCF] at hto
 have hh11 := fun w' g gr gf (h : GrpAt w' g gr gf 1055500680322183127 1966023127 leG) gC (rC : Row w' gC (nsC 2 CF) 40) => chol_any (c := 2) le_gf h (nats_row rC (fun i _ => hcb i)) ((3 : Nat) : Int) 11 (by decide)
 rw [hCF, hol_is le_gf coF 2 (by decide) (by decide) (by decide) 3 11 (by decide) (by decide), ← hCF, show decide (11 = (pev (fi 3) coF).val) = true by decide +kernel] at hh11
 have hh12 := fun w' g gr gf (h : GrpAt w' g gr gf 1055500680322183127 1966023127 leG) gC (rC : Row w' gC (nsC 2 CF) 40) => chol_any (c := 2) le_gf h (nats_row rC (fun i _ => hcb i)) ((3 : Nat) : Int) 12 (by decide)
 rw [hCF, hol_is le_gf coF 2 (by decide) (by decide) (by decide) 3 12 (by decide) (by decide), ← hCF, show decide (12 = (pev (fi 3) coF).val) = false by decide +kernel] at hh12
 have hat := fun w' g gr gf (h : GrpAt w' g gr gf 1055500680322183127 1966023127 leG) gC (rC : Row w' gC (nsC 2 CF) 40) => cat_any (c := 2) le_gf h (nats_row rC (fun i _ => hcb i)) 0
 rw [co_at0 CF _ (hcl 0)] at hat
 have hma := fun w' g gr gf (h : GrpAt w' g gr gf 1055500680322183127 1966023127 leG) gC (rC : Row w' gC (nsC 2 CF) 40) => cmay_any (c := 2) le_gf h (nats_row rC (fun i _ => hcb i))
 rw [show cMay 1055500680322183127 1966023127 CF 2 = true by
  have := hol_is le_gf coF 2 (by decide) (by decide) (by decide) 3 11 (by decide) (by decide)
  rw [show decide (11 = (pev (fi 3) coF).val) = true by decide +kernel, ← hCF] at this
  unfold cHol at this
  simp only [Bool.and_eq_true] at this
  exact this.2.2] at hma
 have hfr : ∀ w' g gr gf, GrpAt w' g gr gf 1055500680322183127 1966023127 leG → ∀ gL, Row w' gL (shC 3 11) 48 → Calls Tryz.prog 28 #[.pointer (some ⟨g, 0, none⟩), .agg (natC (CF 0)), .slice (some ⟨gL, 0, none⟩) 1 1] w' fun e w2 => ∃ gD, e = .returned (.tuple #[.slice (some ⟨gD, 0, none⟩) 2 2, .int .i64 0]) ∧ w'.heap.size ≤ gD ∧ Row w2 gD (nsC 2 CF) 40 ∧ Below w'.heap.size w' w2 := fun w' g gr gf h gL rL => by
  have he : ElsAt 5 w' (some ⟨gL, 0, none⟩) 1 (fun k => shC (((fun _ => 3) k : Nat) : Int) ((fun _ => 11) k)) gL 0 (shC 3 11) 48 := ⟨.inr ⟨rfl, rL.r, fun i hi => by
   obtain rfl : i = 0 := (by omega)
   exact part_all _⟩⟩
  refine (cfrom_ok (c := 1) le_gf (I := fun _ => 3) (Y := fun _ => 11) h (hcb 0) (by decide) (by rw [hc0]; exact mem_yes (by decide) le_gf.ord 5) (fun _ _ => by decide) he co_ap).mono ?_
  rintro e w2 ⟨gD, rfl, h1, h2, h3⟩
  rw [nsC_congr _ _ CF (fun j hj => by
   have hf := fr_is le_gf (I := fun _ => 3) (n := 1) (Y := fun _ => 11) co_ap coF (by decide) (fun i _ => by decide +kernel) j
   rw [hCF]
   exact hf)] at h2
  exact ⟨gD, rfl, h1, h2, h3⟩
 have hsa := fun w' gD gC (rD : Row w' gD (nsC 2 CF) 40) (rC : Row w' gC (nsC 2 CF) 40) => rsame_yes 2 2 2 (some ⟨gD, 0, none⟩) (some ⟨gC, 0, none⟩) CF gD 0 gC 0 _ _ _ _ w' (by decide) (nats_row rD (fun i _ => hcb i)) (nats_row rC (fun i _ => hcb i))
 have hex := fun w' => rexp9_any leG 5 1055500680322183127 ((1966023127 : Nat) : Int) ((leG : Nat) : Int) w' (by decide) (by decide) (by decide)
 rw [← hc0] at hex
 have oX := fun w' => of14_any (CF 0) w' (by have := hcl 0; omega)
 have o5 := fun w' => of14_any 5 w' (by decide)
 have o2 := fun w' => of14_any 2 w' (by decide)
 have o11 := fun w' => of14_any 11 w' (by decide)
 have o12 := fun w' => of14_any 12 w' (by decide)
 clear hsz hszn hCF hc0 hcl hcb
 generalize (1055500680322183127 : Nat) = PP at *
 generalize leG = GG at *
 go_enter Tryz.func9, Tryz.ntmps9
 have sb := sbmk w
 iterate 2 go_step
 refine rp ?_;refine p_v (.bool false) (fun _ => rfl) ?_;simp only [Act.put, List.setIfInBounds_toArray, List.set_cons_zero];refine pw_nil ?_
 iterate 3 go_step
 refine rp ?_;refine p_f 10 Tryz.func10 #[.int .i64 0] (hsm _) ?_
 rintro _ z1000 ⟨g, gr, gf, rfl, ⟨rG, rR, rF⟩, hb⟩
 refine ⟨_, rfl, ?_⟩
 simp only [pv]
 have k := Kept.ofBelow hb
 clear hb;replace sb := kk sb k;clear k;refine p_m ?_;refine p_e ?_;refine p_e ?_;refine p_e ?_;simp only [pv];refine pw_new (by rfl) 27 rfl _ zero_sm ?_;intro g2 z1005 n0 r2 k;simp only [pv]
 have dGx2 := l_l rG.lt n0
 have dRx2 := l_l rR.lt n0
 have dFx2 := l_l rF.lt n0
 have b2 := Nat.le_trans sb.size n0
 clear n0;replace rG := k.ro rG;replace rR := k.ro rR;replace rF := k.ro rF;replace sb := kk sb k;clear k;refine p_a ?_;simp only [pv];refine pw_put (by rfl) 27 _ _ rfl _ rfl r2 (smC (PP : Nat) (1966023127 : Nat) (GG : Nat)) rfl (by exact size_sm) (by rfl) (sm_one _ _ _) ?_;clear r2;intro z1007 r2 k;simp only [Act.put];replace rG := k.ro rG;replace rR := k.ro rR;replace rF := k.ro rF;replace sb := kk sb k;clear k;refine p_a (pw_nil ?_);simp only [pv];clear hsm
 iterate 3 go_step
 refine rp ?_;refine p_m ?_;simp only [pv];refine p_c 17 Tryz.func17 #[.int .i64 5] (o5 _) ?_;intro z2001 k;simp only [pv];replace rG := k.ro rG;replace rR := k.ro rR;replace rF := k.ro rF;replace r2 := k.ro r2;replace sb := kk sb k;clear k;refine p_c 17 Tryz.func17 #[.int .i64 2] (o2 _) ?_;intro z2002 k;simp only [pv];replace rG := k.ro rG;replace rR := k.ro rR;replace rF := k.ro rF;replace r2 := k.ro r2;replace sb := kk sb k;clear k;refine pw_litr (by rfl) 22 40 2 _ rfl (natC 5 ++ natC 2) ien _ Tryz.underlying22 hien hzn h21 h22 [(0, .agg (natC 5)), (1, .agg (natC 2))] rfl (hl2 5 2) ?_;intro gU z2003 n0 rU k;simp only [pv];clear n0;replace rG := k.ro rG;replace rR := k.ro rR;replace rF := k.ro rF;replace r2 := k.ro r2;replace sb := kk sb k;clear k;refine p_f 13 Tryz.func13 #[.pointer (some ⟨g, 0, none⟩), .slice (some ⟨gU, 0, none⟩) 2 2, .int .i64 2] (hto _ g gr gf ⟨rG, rR, rF⟩ gU rU) ?_
 rintro _ z2004 ⟨gC, rfl, nC, rC, hb⟩
 refine ⟨_, rfl, ?_⟩
 simp only [pv];clear nC
 have k := Kept.ofBelow hb
 clear hb;replace rG := k.ro rG;replace rR := k.ro rR;replace rF := k.ro rF;replace r2 := k.ro r2;replace rU := k.ro rU;replace sb := kk sb k;clear k;refine p_m ?_;refine p_e ?_;refine p_e ?_;refine p_a ?_;refine p_a (pw_nil ?_);simp only [pv];clear hto rU
 iterate 4 go_step
 refine rp ?_;refine p_m ?_;simp only [pv];refine p_v (.bool false) (exec_not _ _ rfl true rfl) ?_;refine p_m ?_;refine p_m ?_;simp only [pv];refine p_v (.bool false) (exec_neq_k .i64 _ _ _ _ rfl 0 0 rfl rfl false rfl) ?_;refine p_k false (.bool false) ?_;refine p_m ?_;refine p_m ?_;simp only [pv];refine p_v (.int .i64 2) (n_l (some ⟨gC, 0, none⟩) 2 2 sl_natsX) ?_;simp only [pv];refine p_v (.bool false) (exec_neq_k .i64 _ _ _ _ rfl 2 2 rfl rfl false rfl) ?_;refine p_k false (.bool false) (pw_nil ?_);simp only [pv]
 iterate 7 go_step
 refine wp_region_ewb (by kernel_rfl) [] [(0, false), (1, false), (2, false), (3, false), (4, false), (5, false), (6, true), (7, true), (8, false), (9, false), (10, false), (11, false), (12, false)] ?_ (by kernel_rfl)
 have orC := rC
 have cb := below_self sb
 refine e_m ?_;refine e_m ?_;simp only [pv];refine e_v (.pointer (some ⟨gC, 0 + 0 * 4, none⟩)) ((exec_index_s 22 _ _ rfl gC 0 (2) (2) rfl (0) rfl (by decide) _ Tryz.underlying22 4 size_nat4)) ?_;simp only [pv];refine ew_loadm (by rfl) 40 _ rfl _ (0 + 0 * 4) rfl (fun _ hb => (orC.belowAll hb).r) (natC (CF 0)) (nsC_part 2 CF 0 (by decide) (0 + 0 * 4) rfl) _ Tryz.underlying40 rfl size_nat ?_;simp only [pv];refine ew_call (by rfl) 17 _ _ rfl Tryz.func17 (by kernel_rfl) #[.int .i64 11] rfl _ (fun w _ => o11 w) ?_;simp only [pv];refine e_v (.agg (shC 3 11)) (exec_buildv _ [(0, .const (.int .i64 3)), (1, .tmp 37)] rfl [(0, .int .i64 3), (1, .agg (natC 11))] rfl (shC 3 11) (built_sh _ _)) ?_;simp only [pv];refine ew_litr (by rfl) 59 48 1 _ rfl (shC 3 11) ie _ Tryz.underlying59 hie hz hs1 hs2 [(0, .agg (shC 3 11))] rfl hlS ?_;intro wa6 hqb gL wb6 n0 rL hb
 refine ⟨fun _ => below_on (below_on cb (Nat.le_refl _) hqb) (Nat.le_refl _) hb, ?_⟩
 simp only [pv];replace rG := rG.belowAll hqb;replace rR := rR.belowAll hqb;replace rF := rF.belowAll hqb;replace r2 := r2.belowAll hqb;replace rC := rC.belowAll hqb;replace sb := b_o sb hqb;replace cb := b_o cb hqb;replace rG := rG.belowAll hb;replace rR := rR.belowAll hb;replace rF := rF.belowAll hb;replace r2 := r2.belowAll hb;replace rC := rC.belowAll hb;replace sb := b_o sb hb;replace cb := b_o cb hb;clear hqb hb n0;refine ew_callE (by rfl) 28 _ _ rfl Tryz.func28 (by kernel_rfl) #[.pointer (some ⟨g, 0, none⟩), .agg (natC (CF 0)), .slice (some ⟨gL, 0, none⟩) 1 1] rfl ?_;intro wa7 hqb;replace rG := rG.belowAll hqb;replace rR := rR.belowAll hqb;replace rF := rF.belowAll hqb;replace r2 := r2.belowAll hqb;replace rC := rC.belowAll hqb;replace rL := rL.belowAll hqb;replace sb := b_o sb hqb;replace cb := b_o cb hqb;clear hqb;refine (hfr _ g gr gf ⟨rG, rR, rF⟩ gL rL).mono ?_
 rintro _ wb7 ⟨gD, rfl, nD, rD, hb⟩
 refine ⟨_, rfl, fun _ => below_on cb (Nat.le_refl _) hb, ?_⟩
 simp only [pv];clear nD;replace rG := rG.belowAll hb;replace rR := rR.belowAll hb;replace rF := rF.belowAll hb;replace r2 := r2.belowAll hb;replace rC := rC.belowAll hb;replace rL := rL.belowAll hb;replace sb := b_o sb hb;replace cb := b_o cb hb;clear hb;refine e_m ?_;refine ew_ext (by rfl) rfl rfl rfl ?_;refine ew_ext (by rfl) rfl rfl rfl ?_;refine ew_as (by rfl) rfl rfl ?_;refine ew_as (by rfl) rfl rfl ?_;simp only [pv];refine ew_nil ?_;intro wz hqb;replace rG := rG.belowAll hqb;replace rR := rR.belowAll hqb;replace rF := rF.belowAll hqb;replace r2 := r2.belowAll hqb;replace rC := rC.belowAll hqb;replace rL := rL.belowAll hqb;replace rD := rD.belowAll hqb;replace sb := b_o sb hqb;clear hqb cb orC;clear hfr
 iterate 3 go_step
 refine wp_region_qw (by kernel_rfl) (by kernel_rfl) ?_;refine q_m ?_;refine q_m ?_;simp only [pv];refine q_c 17 Tryz.func17 #[.int .i64 11] o11 ?_;simp only [pv];refine q_v (.agg (shC 3 11)) (exec_buildv _ [(0, .const (.int .i64 3)), (1, .tmp 45)] rfl [(0, .int .i64 3), (1, .agg (natC 11))] rfl (shC 3 11) (built_sh _ _)) ?_;simp only [pv];refine q_k 21 Tryz.func21 #[.pointer (some ⟨g, 0, none⟩), .slice (some ⟨gC, 0, none⟩) 2 2, .agg (shC 3 11)] (fun w' hb => hh11 w' g gr gf ⟨rG.belowAll hb, rR.belowAll hb, rF.belowAll hb⟩ gC (rC.belowAll hb)) ?_;refine q_m ?_;refine q_m ?_;refine q_m ?_;simp only [pv];refine q_c 17 Tryz.func17 #[.int .i64 12] o12 ?_;simp only [pv];refine q_v (.agg (shC 3 12)) (exec_buildv _ [(0, .const (.int .i64 3)), (1, .tmp 51)] rfl [(0, .int .i64 3), (1, .agg (natC 12))] rfl (shC 3 12) (built_sh _ _)) ?_;simp only [pv];refine q_k 21 Tryz.func21 #[.pointer (some ⟨g, 0, none⟩), .slice (some ⟨gC, 0, none⟩) 2 2, .agg (shC 3 12)] (fun w' hb => hh12 w' g gr gf ⟨rG.belowAll hb, rR.belowAll hb, rF.belowAll hb⟩ gC (rC.belowAll hb)) ?_;simp only [pv];refine q_v (.bool true) (exec_not _ _ rfl false rfl) ?_;refine q_p true (.bool true) ?_;refine q_m ?_;refine q_m ?_;refine q_m ?_;simp only [pv];refine q_k 19 Tryz.func19 #[.slice (some ⟨gD, 0, none⟩) 2 2, .slice (some ⟨gC, 0, none⟩) 2 2] (fun w' hb => hsa w' gD gC (rD.belowAll hb) (rC.belowAll hb)) ?_;refine q_p true (.bool true) ?_;refine q_m ?_;refine q_m ?_;simp only [pv];refine q_v (.bool true) (exec_eql_k .i64 _ _ _ _ rfl 0 0 rfl rfl true rfl) ?_;refine q_p true (.bool true) ?_;refine q_m ?_;refine q_m ?_;refine q_m ?_;simp only [pv];refine q_k 16 Tryz.func16 #[.pointer (some ⟨g, 0, none⟩), .slice (some ⟨gC, 0, none⟩) 2 2, .int .i64 0] (fun w' hb => hat w' g gr gf ⟨rG.belowAll hb, rR.belowAll hb, rF.belowAll hb⟩ gC (rC.belowAll hb)) ?_;simp only [pv];refine qw_loadm (by rfl) 27 _ rfl _ (0) rfl r2 (smC (PP : Nat) (1966023127 : Nat) (GG : Nat)) (part_all _) _ Tryz.underlying27 rfl size_sm ?_;simp only [pv];refine q_v (.pointer (some ⟨g2, 0 + 2, none⟩)) (exec_field 27 _ 2 rfl g2 0 rfl _ Tryz.underlying27 _ rfl 0 Tryz.sizeOf3) ?_;simp only [pv];refine qw_loadc (by rfl) 3 _ rfl _ (0 + 2) rfl r2 (.int .i64 (GG : Nat)) rfl Tryz.isAgg3 ?_;simp only [pv];refine q_c 17 Tryz.func17 #[.int .i64 5] o5 ?_;simp only [pv];refine q_c 32 Tryz.func32 #[.agg (smC (PP : Nat) (1966023127 : Nat) (GG : Nat)), .int .i64 (GG : Nat), .agg (natC 5)] hex ?_;simp only [pv];refine q_c 17 Tryz.func17 #[.int .i64 ((CF 0 : Nat) : Int)] oX ?_;simp only [pv];refine q_v (.bool true) (fun w' => (exec_eql_nat _ _ _ rfl (CF 0) (CF 0) rfl rfl w').trans (by rw [eqn_yes])) ?_;refine q_p true (.bool true) ?_;refine q_m ?_;refine q_m ?_;refine q_m ?_;simp only [pv];refine q_k 14 Tryz.func14 #[.pointer (some ⟨g, 0, none⟩), .slice (some ⟨gC, 0, none⟩) 2 2] (fun w' hb => hma w' g gr gf ⟨rG.belowAll hb, rR.belowAll hb, rF.belowAll hb⟩ gC (rC.belowAll hb)) ?_;refine q_p true (.bool true) ?_;simp only [pv];refine q_a ?_;simp only [Act.put, List.setIfInBounds_toArray, List.set_cons_zero];refine qw_nil ?_;intro w9 hqb;replace sb := b_o sb hqb;clear hqb
 go_wp2
 go_ret
 exact ⟨rfl, sb⟩
end Go.Proofs.YtgdalihjpemjiaaGreat
