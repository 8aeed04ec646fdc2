/- How a message's bytes are read, by plain functions: what comes of them, and that nothing else does. -/
import Derived.Test.YtojobffihlmfgaaWRE
namespace Go.Proofs.Ytojobffihlmfgaa
open Go.RowKit
set_option linter.unusedVariables false
set_option linter.unusedSimpArgs false
/-- A number of so many bytes off the beginning; a text behind its count. -/
def gN (l : List UInt8) (k : Nat) : Option (Nat × List UInt8) := if k ≤ l.length then some (nuV (l.take k) k, l.drop k) else none
def gT (l : List UInt8) (k : Nat) : Option (List UInt8 × List UInt8) :=
 match gN l k with
 | none => none
 | some (c, r) => if c ≤ r.length then some (r.take c, r.drop c) else none
theorem bf_ext {a b : List UInt8} (hl : a.length = b.length) (h : ∀ j, j < a.length → bf a j = bf b j) : a = b := by
 apply List.ext_getElem hl
 intro i h1 h2
 have := h i h1
 unfold bf at this
 rw [List.getD_eq_getElem?_getD, List.getD_eq_getElem?_getD, List.getElem?_eq_getElem h1, List.getElem?_eq_getElem h2] at this
 exact UInt8.toNat_inj.1 this
theorem nuV_digit (l : List UInt8) : ∀ k j, j < k → nuV l k / 256 ^ (k - 1 - j) % 256 = bf l j
 | 0, j, h => absurd h (Nat.not_lt_zero j)
 | k + 1, j, h => by
  have hb := bf_lt l k
  show (nuV l k * 256 + bf l k) / 256 ^ (k + 1 - 1 - j) % 256 = bf l j
  by_cases e : j = k
  ·subst e
   rw [show j + 1 - 1 - j = 0 by omega, Nat.pow_zero, Nat.div_one]
   omega
  ·have ih := nuV_digit l k j (by omega)
   rw [show k + 1 - 1 - j = (k - 1 - j) + 1 by omega, Nat.pow_succ, Nat.mul_comm (256 ^ (k - 1 - j)) 256, ← Nat.div_div_eq_div_mul, show (nuV l k * 256 + bf l k) / 256 = nuV l k by omega]
   exact ih
theorem pow256 (n : Nat) : (2 : Nat) ^ (n * 8) = 256 ^ n := by rw [Nat.mul_comm, Nat.pow_mul]
/-- Bytes are those of the number that they say. -/
theorem nuL_inv (l : List UInt8) (k : Nat) (h : l.length = k) : nuL (nuV l k) k = l := by
 refine bf_ext (by rw [nuL_length, h]) (fun j hj => ?_)
 rw [nuL_length] at hj
 rw [nuL_bf _ _ _ hj, pow256]
 exact nuV_digit l k j hj
theorem gN_is {l : List UInt8} {k n : Nat} {R : List UInt8} (h : gN l k = some (n, R)) : l = nuL n k ++ R ∧ n < 256 ^ k := by
 unfold gN at h
 split at h
 ·rename_i hl
  simp only [Option.some.injEq, Prod.mk.injEq] at h
  obtain ⟨rfl, rfl⟩ := h
  refine ⟨?_, nuV_lt _ _⟩
  rw [nuL_inv _ _ (by rw [List.length_take]; omega), List.take_append_drop]
 ·cases h
theorem gT_is {l : List UInt8} {k : Nat} {x R : List UInt8} (h : gT l k = some (x, R)) : l = nuL x.length k ++ (x ++ R) ∧ x.length < 256 ^ k := by
 unfold gT at h
 split at h
 ·cases h
 ·rename_i c r hN
  split at h
  ·rename_i hc
   simp only [Option.some.injEq, Prod.mk.injEq] at h
   obtain ⟨rfl, rfl⟩ := h
   obtain ⟨rfl, hlt⟩ := gN_is hN
   have e : (r.take c).length = c := by rw [List.length_take]; omega
   rw [e, List.take_append_drop]
   exact ⟨rfl, hlt⟩
  ·cases h
/-- So many naturals' bytes, each behind its count. -/
def okT (t : List UInt8) : Bool := !badB ⟨t.toArray⟩
def gY (l : List UInt8) : Nat → Option (List (List UInt8) × List UInt8)
 | 0 => some ([], l)
 | k + 1 =>
  match gY l k with
  | none => none
  | some (ts, r) =>
   match gT r 1 with
   | none => none
   | some (t, r') => if okT t then some (ts ++ [t], r') else none
/-- Texts, each behind its count. -/
def tsL : List (List UInt8) → List UInt8
 | [] => []
 | t :: r => nuL t.length 1 ++ (t ++ tsL r)
theorem tsL_app (a b : List (List UInt8)) : tsL (a ++ b) = tsL a ++ tsL b := by
 induction a with
 | nil => rfl
 | cons t r ih => show nuL t.length 1 ++ (t ++ tsL (r ++ b)) = (nuL t.length 1 ++ (t ++ tsL r)) ++ tsL b; rw [ih]; simp only [List.append_assoc]
theorem gY_is {l : List UInt8} : ∀ {k : Nat} {ts : List (List UInt8)} {R : List UInt8}, gY l k = some (ts, R) → l = tsL ts ++ R ∧ ts.length = k ∧ ∀ t ∈ ts, okT t = true
 | 0, ts, R, h => by
  simp only [gY, Option.some.injEq, Prod.mk.injEq] at h
  obtain ⟨rfl, rfl⟩ := h
  exact ⟨rfl, rfl, fun t ht => by cases ht⟩
 | k + 1, ts, R, h => by
  unfold gY at h
  split at h
  ·cases h
  ·rename_i ts0 r hk
   split at h
   ·cases h
   ·rename_i t r' ht
    split at h
    ·rename_i hok
     simp only [Option.some.injEq, Prod.mk.injEq] at h
     obtain ⟨rfl, rfl⟩ := h
     obtain ⟨e1, e2, e3⟩ := gY_is hk
     obtain ⟨e4, _⟩ := gT_is ht
     refine ⟨?_, by rw [List.length_append, e2]; rfl, ?_⟩
     ·rw [e1, e4, tsL_app]
      show tsL ts0 ++ (nuL t.length 1 ++ (t ++ r')) = (tsL ts0 ++ (nuL t.length 1 ++ (t ++ []))) ++ r'
      simp only [List.append_assoc, List.append_nil, List.nil_append]
     ·intro u hu
      rcases List.mem_append.1 hu with hu | hu
      ·exact e3 u hu
      ·rw [List.mem_singleton.1 hu]; exact hok
    ·cases h
end Go.Proofs.Ytojobffihlmfgaa
/- What is read of bytes as a message, as a whole: it is the message's bytes, and nothing else. -/
namespace Go.Proofs.Ytojobffihlmfgaa
open Go.RowKit
set_option linter.unusedVariables false
set_option linter.unusedSimpArgs false
/-- What is read: the matrix and the Ys are still bytes. -/
structure RD where
 kd : Nat
 op : Nat
 key : List UInt8
 sq : Nat
 cl : Nat
 dg : List UInt8
 X : List UInt8
 ys : List (List UInt8)
def XOk (X : List UInt8) : Prop := ∃ n k G, XmV n k G ∧ X = xmL n k G
noncomputable def gX (X : List UInt8) : Bool := @decide (XOk X) (Classical.propDecidable _)
theorem gX_yes {X : List UInt8} (h : gX X = true) : XOk X := @of_decide_eq_true _ (Classical.propDecidable _) h
theorem gX_no {X : List UInt8} (h : gX X = false) : ¬ XOk X := @of_decide_eq_false _ (Classical.propDecidable _) h
/-- The Ys behind a matrix' bytes. -/
noncomputable def gZ (X l : List UInt8) : Option (List (List UInt8) × List UInt8) := if X = [] then some ([], l) else if gX X then gY l (bf X 0) else none
noncomputable def rz (s : List UInt8) : Option (RD × List UInt8) :=
 (gN s 1).bind fun a => (gN a.2 4).bind fun b => (gT b.2 1).bind fun c => (gN c.2 6).bind fun d => (gN d.2 1).bind fun e => (gT e.2 1).bind fun f => (gT f.2 2).bind fun x => (gZ x.1 x.2).bind fun y =>
  some (⟨a.1, b.1, c.1, d.1, e.1, f.1, x.1, y.1⟩, y.2)
def rdR (d : RD) (R : List UInt8) : List UInt8 :=
 nuL d.kd 1 ++ (nuL d.op 4 ++ (nuL d.key.length 1 ++ (d.key ++ (nuL d.sq 6 ++ (nuL d.cl 1 ++ (nuL d.dg.length 1 ++ (d.dg ++ (nuL d.X.length 2 ++ (d.X ++ (tsL d.ys ++ R))))))))))
/-- Data that can be read. -/
structure RDok (d : RD) : Prop where
 kd : d.kd < 256 ^ 1
 op : d.op < 256 ^ 4
 key : d.key.length < 256 ^ 1
 sq : d.sq < 256 ^ 6
 cl : d.cl < 256 ^ 1
 dg : d.dg.length < 256 ^ 1
 X : d.X.length < 256 ^ 2
 ys : (d.X = [] ∧ d.ys = []) ∨ (d.X ≠ [] ∧ XOk d.X ∧ d.ys.length = bf d.X 0 ∧ ∀ t ∈ d.ys, okT t = true)
theorem gZ_is {X l : List UInt8} {ts : List (List UInt8)} {R : List UInt8} (h : gZ X l = some (ts, R)) : l = tsL ts ++ R ∧ ((X = [] ∧ ts = []) ∨ (X ≠ [] ∧ XOk X ∧ ts.length = bf X 0 ∧ ∀ t ∈ ts, okT t = true)) := by
 unfold gZ at h
 split at h
 ·rename_i hX
  simp only [Option.some.injEq, Prod.mk.injEq] at h
  obtain ⟨rfl, rfl⟩ := h
  exact ⟨rfl, .inl ⟨hX, rfl⟩⟩
 ·rename_i hX
  split at h
  ·rename_i hg
   obtain ⟨e1, e2, e3⟩ := gY_is h
   exact ⟨e1, .inr ⟨hX, gX_yes hg, e2, e3⟩⟩
  ·cases h
theorem rz_is {s : List UInt8} {d : RD} {R : List UInt8} (h : rz s = some (d, R)) : s = rdR d R ∧ RDok d := by
 unfold rz at h
 obtain ⟨⟨a1, a2⟩, ha, h⟩ := Option.bind_eq_some_iff.1 h
 obtain ⟨⟨b1, b2⟩, hb, h⟩ := Option.bind_eq_some_iff.1 h
 obtain ⟨⟨c1, c2⟩, hc, h⟩ := Option.bind_eq_some_iff.1 h
 obtain ⟨⟨d1, d2⟩, hd, h⟩ := Option.bind_eq_some_iff.1 h
 obtain ⟨⟨e1, e2⟩, he, h⟩ := Option.bind_eq_some_iff.1 h
 obtain ⟨⟨f1, f2⟩, hf, h⟩ := Option.bind_eq_some_iff.1 h
 obtain ⟨⟨x1, x2⟩, hx, h⟩ := Option.bind_eq_some_iff.1 h
 obtain ⟨⟨y1, y2⟩, hy, h⟩ := Option.bind_eq_some_iff.1 h
 simp only [Option.some.injEq, Prod.mk.injEq] at h
 obtain ⟨rfl, rfl⟩ := h
 dsimp only at hb hc hd he hf hx hy
 obtain ⟨ea, ka⟩ := gN_is ha
 obtain ⟨eb, kb⟩ := gN_is hb
 obtain ⟨ec, kc⟩ := gT_is hc
 obtain ⟨ed, kd⟩ := gN_is hd
 obtain ⟨ee, ke⟩ := gN_is he
 obtain ⟨ef, kf⟩ := gT_is hf
 obtain ⟨ex, kx⟩ := gT_is hx
 obtain ⟨ey, ky⟩ := gZ_is hy
 refine ⟨?_, ka, kb, kc, kd, ke, kf, kx, ky⟩
 unfold rdR
 rw [ea, eb, ec, ed, ee, ef, ex, ey]
theorem rdR_app (d : RD) (R : List UInt8) : rdR d R = rdR d [] ++ R := by
 unfold rdR
 simp only [List.append_assoc, List.append_nil, List.nil_append]
/-- A message's bytes are those of its data. -/
theorem tsL_ys (Y : Nat → Nat) : ∀ m, ysL Y m = tsL ((List.range m).map fun i => byL (Y i))
 | 0 => rfl
 | m + 1 => by
  rw [List.range_succ, List.map_append, tsL_app, ← tsL_ys Y m]
  show ysL Y m ++ ptL (Y m) = ysL Y m ++ (nuL (byL (Y m)).length 1 ++ (byL (Y m) ++ []))
  rw [List.append_nil]
  rfl
theorem msL_rd (kd op : Nat) (key : List UInt8) (sq cl : Nat) (dg X : List UInt8) (m : Nat) (Y : Nat → Nat) : msL kd op key sq cl dg X m Y = rdR ⟨kd, op, key, sq, cl, dg, X, (List.range m).map fun i => byL (Y i)⟩ [] := by
 unfold msL hdL rdR
 rw [tsL_ys]
 simp only [List.append_assoc, List.append_nil, List.nil_append]
theorem byL_take {t : List UInt8} (h : okT t = true) : byL (takeN ⟨t.toArray⟩) = t := by
 have hb : takeE ⟨t.toArray⟩ = 0 := by
  unfold takeE
  unfold okT at h
  rw [if_neg (by intro e; rw [e] at h; cases h)]
 unfold byL
 rw [bytes_take _ hb]
end Go.Proofs.Ytojobffihlmfgaa
/- The source's methods, by what they read; sure. -/
namespace Go.Proofs.Ytojobffihlmfgaa
open Go.RowKit
set_option linter.unusedVariables false
set_option linter.unusedSimpArgs false
theorem gN_some {L : List UInt8} {s n : Nat} {R : List UInt8} {g0 : Nat} {w : World} (r0 : Row w g0 #[.string ⟨L.toArray⟩] 64) (hs : 1 ≤ s) (hs6 : s ≤ 6) (h : gN L s = some (n, R)) :
  Calls Try.prog 30 #[.pointer (some ⟨g0, 0, none⟩), .int .i64 (s : Nat)] w fun e w' => e = .returned (.int .i64 (n : Nat)) ∧ Row w' g0 #[.string ⟨R.toArray⟩] 64 ∧ Kept [g0] w w' := by
 obtain ⟨rfl, hn⟩ := gN_is h
 exact snum_cat n s R g0 w r0 hs hs6 hn
set_option maxRecDepth 100000 in
set_option maxHeartbeats 2000000 in
theorem gN_none {L : List UInt8} {s : Nat} {g0 : Nat} {w : World} (r0 : Row w g0 #[.string ⟨L.toArray⟩] 64) (h : gN L s = none) :
  Calls Try.prog 30 #[.pointer (some ⟨g0, 0, none⟩), .int .i64 (s : Nat)] w fun e w' => e = .panicked (wrP 4) ∧ Kept [g0] w w' := by
 have hl : L.length < s := by
  unfold gN at h
  split at h
  ·cases h
  ·omega
 have sk := Kept.refl [g0] w
 have l0 := r0.lt
 go_enter Try.func30, Try.ntmps30
 (repeat ((fail_if_success with_reducible refine rg ?_); go_step))
 refine wp_region_pw ?_
 refine pw_value (by rfl) (.int .i64 0) (fun _ => rfl) ?_
 simp only [Act.put, pu]
 refine pw_nil ?_
 (repeat ((fail_if_success with_reducible refine rg ?_); go_step))
 refine wp_region_pw ?_
 refine pw_value (by rfl) (.int .i64 0) (fun _ => rfl) ?_
 simp only [Act.put, pu]
 refine pw_nil ?_
 (repeat ((fail_if_success with_reducible refine rg ?_); go_step))
 refine wp_region_pw ?_
 refine pw_mv (by rfl) rfl rfl ?_
 simp only [Act.put, pu]
 refine pw_mv (by rfl) rfl rfl ?_
 simp only [Act.put, pu]
 refine pw_callP (by rfl) 57 _ _ rfl Try.func57 (by kernel_rfl) #[.pointer (some ⟨g0, 0, none⟩), .int .i64 (s : Nat)] rfl (stake_no L s g0 _ r0 hl) ?_
 intro z2002 k
 exact ⟨rfl, rfl, sk.trans k (by simp)⟩
theorem gT_some {L : List UInt8} {s : Nat} {x R : List UInt8} {g0 : Nat} {w : World} (r0 : Row w g0 #[.string ⟨L.toArray⟩] 64) (hs : 1 ≤ s) (hs6 : s ≤ 6) (h : gT L s = some (x, R)) :
  Calls Try.prog 31 #[.pointer (some ⟨g0, 0, none⟩), .int .i64 (s : Nat)] w fun e w' => e = .returned (.string ⟨x.toArray⟩) ∧ Row w' g0 #[.string ⟨R.toArray⟩] 64 ∧ Kept [g0] w w' := by
 obtain ⟨rfl, hn⟩ := gT_is h
 exact stext_cat x s R g0 w r0 hs hs6 hn
set_option maxRecDepth 100000 in
set_option maxHeartbeats 2000000 in
theorem gT_none {L : List UInt8} {s : Nat} {g0 : Nat} {w : World} (r0 : Row w g0 #[.string ⟨L.toArray⟩] 64) (hs : 1 ≤ s) (hs6 : s ≤ 6) (h : gT L s = none) :
  Calls Try.prog 31 #[.pointer (some ⟨g0, 0, none⟩), .int .i64 (s : Nat)] w fun e w' => e = .panicked (wrP 4) ∧ Kept [g0] w w' := by
 have sk := Kept.refl [g0] w
 have l0 := r0.lt
 cases hN : gN L s with
 | none =>
  go_enter Try.func31, Try.ntmps31
  (repeat ((fail_if_success with_reducible refine rg ?_); go_step))
  refine wp_region_pw ?_
  refine pw_move (by rfl) (.inr rfl) rfl ?_
  simp only [Act.put, pu]
  refine pw_nil ?_
  (repeat ((fail_if_success with_reducible refine rg ?_); go_step))
  refine wp_region_pw ?_
  refine pw_mv (by rfl) rfl rfl ?_
  simp only [Act.put, pu]
  refine pw_mv (by rfl) rfl rfl ?_
  simp only [Act.put, pu]
  refine pw_mv (by rfl) rfl rfl ?_
  simp only [Act.put, pu]
  refine pw_callP (by rfl) 30 _ _ rfl Try.func30 (by kernel_rfl) #[.pointer (some ⟨g0, 0, none⟩), .int .i64 (s : Nat)] rfl (gN_none r0 hN) ?_
  intro z1003 k
  exact ⟨rfl, rfl, sk.trans k (by simp)⟩
 | some p =>
  obtain ⟨c, R⟩ := p
  have hc : R.length < c := by
   unfold gT at h
   rw [hN] at h
   by_cases e : c ≤ R.length
   ·simp [e] at h
   ·omega
  go_enter Try.func31, Try.ntmps31
  (repeat ((fail_if_success with_reducible refine rg ?_); go_step))
  refine wp_region_pw ?_
  refine pw_move (by rfl) (.inr rfl) rfl ?_
  simp only [Act.put, pu]
  refine pw_nil ?_
  (repeat ((fail_if_success with_reducible refine rg ?_); go_step))
  refine wp_region_pw ?_
  refine pw_mv (by rfl) rfl rfl ?_
  simp only [Act.put, pu]
  refine pw_mv (by rfl) rfl rfl ?_
  simp only [Act.put, pu]
  refine pw_mv (by rfl) rfl rfl ?_
  simp only [Act.put, pu]
  refine pw_callE (by rfl) 30 _ _ rfl Try.func30 (by kernel_rfl) #[.pointer (some ⟨g0, 0, none⟩), .int .i64 (s : Nat)] rfl (gN_some r0 hs hs6 hN) ?_
  have cr0 := r0.lt
  clear r0
  rintro _ z1003 ⟨rfl, r0, k⟩
  refine ⟨_, rfl, ?_⟩
  simp only [Act.put, pu]
  clear cr0
  replace sk := sk.trans k (by simp <;> omega)
  clear k
  refine pw_callP (by rfl) 57 _ _ rfl Try.func57 (by kernel_rfl) #[.pointer (some ⟨g0, 0, none⟩), .int .i64 (c : Nat)] rfl (stake_no R c g0 _ r0 hc) ?_
  intro z1004 k
  exact ⟨rfl, rfl, sk.trans k (by simp)⟩
set_option maxRecDepth 100000 in
set_option maxHeartbeats 2000000 in
theorem sureM_ok (a1 : Option Addr) (n c1 : Nat) (w : World) :
  Calls Try.prog 32 #[.slice a1 n c1, .int .i64 0] w fun e w' => e = .returned (.slice a1 n c1) ∧ Below w.heap.size w w' := by
 have sb := Below.refl w.heap.size w
 go_enter Try.func32, Try.ntmps32
 (repeat ((fail_if_success with_reducible refine rg ?_); go_step))
 refine wp_region_pw ?_
 refine pw_value (by rfl) (.slice none 0 0) ((fun _ => rfl)) ?_
 simp only [Act.put, pu]
 refine pw_nil ?_
 (repeat ((fail_if_success with_reducible refine rg ?_); go_step))
 refine wp_region_pw ?_
 refine pw_mv (by rfl) rfl rfl ?_
 simp only [Act.put, pu]
 refine pw_value (by rfl) (.bool true) (x_eqI _ _ _ _ rfl .i64 0 0 rfl rfl true rfl) ?_
 simp only [Act.put, pu]
 refine pw_callB (by rfl) 24 _ _ rfl Try.func24 (by kernel_rfl) #[.bool true, .int .i64 4] rfl _ (insist_any true 4 _) ?_
 intro z1002 k
 simp only [Act.put, pu]
 replace sb := sb.trans (k.below w.heap.size sb.size (by simp <;> omega))
 clear k
 refine pw_nil ?_
 (repeat ((fail_if_success with_reducible refine rg ?_); go_step))
 refine wp_region_pw ?_
 refine pw_mv (by rfl) rfl rfl ?_
 simp only [Act.put, pu]
 refine pw_as (by rfl) rfl rfl ?_
 simp only [Act.put, pu]
 refine pw_nil ?_
 go_wp2
 go_ret
 exact ⟨rfl, sb⟩
set_option maxRecDepth 100000 in
set_option maxHeartbeats 2000000 in
theorem sureM_no (a1 : Option Addr) (n c1 : Nat) (w : World) :
  Calls Try.prog 32 #[.slice a1 n c1, .int .i64 4] w fun e w' => e = .panicked (wrP 4) ∧ Below w.heap.size w w' := by
 have sb := Below.refl w.heap.size w
 go_enter Try.func32, Try.ntmps32
 (repeat ((fail_if_success with_reducible refine rg ?_); go_step))
 refine wp_region_pw ?_
 refine pw_value (by rfl) (.slice none 0 0) ((fun _ => rfl)) ?_
 simp only [Act.put, pu]
 refine pw_nil ?_
 (repeat ((fail_if_success with_reducible refine rg ?_); go_step))
 refine wp_region_pw ?_
 refine pw_mv (by rfl) rfl rfl ?_
 simp only [Act.put, pu]
 refine pw_value (by rfl) (.bool false) (x_eqI _ _ _ _ rfl .i64 4 0 rfl rfl false rfl) ?_
 simp only [Act.put, pu]
 refine pw_callP (by rfl) 24 _ _ rfl Try.func24 (by kernel_rfl) #[.bool false, .int .i64 4] rfl (insist_any false 4 _) ?_
 intro z1002 hb
 exact ⟨rfl, rfl, below_on sb (Nat.le_refl _) hb⟩
set_option maxRecDepth 100000 in
set_option maxHeartbeats 2000000 in
theorem sureN_ok (A : Nat) (w : World) :
  Calls Try.prog 34 #[.agg (natC A), .int .i64 0] w fun e w' => e = .returned (.agg (natC A)) ∧ Below w.heap.size w w' := by
 go_enter Try.func34, Try.ntmps34
 (repeat ((fail_if_success with_reducible refine rg ?_); go_step))
 refine wp_region_pw ?_
 refine pw_boxr (by rfl) 51 _ rfl (natC A) rfl ?_
 intro g2 z0 n0 r2 k
 simp only [Act.put, pu]
 have b2 : w.heap.size ≤ g2 := n0
 clear n0
 have sb := k.below w.heap.size (Nat.le_refl _) (by simp)
 clear k
 refine pw_new (by rfl) 51 rfl _ zero_nat ?_
 intro g4 z1 n0 r4 k
 simp only [Act.put, pu]
 have d2x4 := Nat.lt_of_lt_of_le r2.lt n0
 have b4 := Nat.le_trans sb.size n0
 clear n0
 replace r2 := k.row r2 (by simp <;> omega)
 replace sb := sb.trans (k.below w.heap.size sb.size (by simp <;> omega))
 clear k
 refine pw_nil ?_
 (repeat ((fail_if_success with_reducible refine rg ?_); go_step))
 refine wp_region_pw ?_
 refine pw_mv (by rfl) rfl rfl ?_
 simp only [Act.put, pu]
 refine pw_value (by rfl) (.bool true) (x_eqI _ _ _ _ rfl .i64 0 0 rfl rfl true rfl) ?_
 simp only [Act.put, pu]
 refine pw_callB (by rfl) 24 _ _ rfl Try.func24 (by kernel_rfl) #[.bool true, .int .i64 4] rfl _ (insist_any true 4 _) ?_
 intro z1002 k
 simp only [Act.put, pu]
 replace r2 := k.row r2 (by simp <;> omega)
 replace r4 := k.row r4 (by simp <;> omega)
 replace sb := sb.trans (k.below w.heap.size sb.size (by simp <;> omega))
 clear k
 refine pw_nil ?_
 (repeat ((fail_if_success with_reducible refine rg ?_); go_step))
 refine wp_region_pw ?_
 refine pw_loadm (by rfl) 51 _ rfl _ 0 rfl r2.r _ (part_all _) _ Try.underlying51 rfl size_nat ?_
 simp only [Act.put, pu]
 refine pw_put (by rfl) 51 _ _ rfl _ rfl r4 (natC A) rfl (by exact size_nat) (by simp only [natC_size]) (natC_one _) ?_
 clear r4
 intro z2001 r4 k
 simp only [Act.put]
 replace r2 := k.row r2 (by simp <;> omega)
 replace sb := sb.trans (k.below w.heap.size sb.size (by simp <;> omega))
 clear k
 refine pw_nil ?_
 go_wp2
 exact ret_row rfl _ rfl r4 4 _ Try.underlying51 (by exact size_nat) rfl ⟨rfl, sb⟩
set_option maxRecDepth 100000 in
set_option maxHeartbeats 2000000 in
theorem sureN_no (A : Nat) (w : World) :
  Calls Try.prog 34 #[.agg (natC A), .int .i64 4] w fun e w' => e = .panicked (wrP 4) ∧ Below w.heap.size w w' := by
 go_enter Try.func34, Try.ntmps34
 (repeat ((fail_if_success with_reducible refine rg ?_); go_step))
 refine wp_region_pw ?_
 refine pw_boxr (by rfl) 51 _ rfl (natC A) rfl ?_
 intro g2 z0 n0 r2 k
 simp only [Act.put, pu]
 have b2 : w.heap.size ≤ g2 := n0
 clear n0
 have sb := k.below w.heap.size (Nat.le_refl _) (by simp)
 clear k
 refine pw_new (by rfl) 51 rfl _ zero_nat ?_
 intro g4 z1 n0 r4 k
 simp only [Act.put, pu]
 have d2x4 := Nat.lt_of_lt_of_le r2.lt n0
 have b4 := Nat.le_trans sb.size n0
 clear n0
 replace r2 := k.row r2 (by simp <;> omega)
 replace sb := sb.trans (k.below w.heap.size sb.size (by simp <;> omega))
 clear k
 refine pw_nil ?_
 (repeat ((fail_if_success with_reducible refine rg ?_); go_step))
 refine wp_region_pw ?_
 refine pw_mv (by rfl) rfl rfl ?_
 simp only [Act.put, pu]
 refine pw_value (by rfl) (.bool false) (x_eqI _ _ _ _ rfl .i64 4 0 rfl rfl false rfl) ?_
 simp only [Act.put, pu]
 refine pw_callP (by rfl) 24 _ _ rfl Try.func24 (by kernel_rfl) #[.bool false, .int .i64 4] rfl (insist_any false 4 _) ?_
 intro z1002 hb
 exact ⟨rfl, rfl, below_on sb (Nat.le_refl _) hb⟩
end Go.Proofs.Ytojobffihlmfgaa
/- What is told of bytes as a message, as a plain function of the bytes; matrices and naturals that are taken. -/
namespace Go.Proofs.Ytojobffihlmfgaa
open Go.RowKit
set_option linter.unusedVariables false
set_option linter.unusedSimpArgs false
set_option linter.unusedSectionVars false
/-- The steps of reading, one behind the other. -/
noncomputable def rz7 (kd op : Nat) (key : List UInt8) (sq cl : Nat) (dg l : List UInt8) : Option (RD × List UInt8) :=
 (gT l 2).bind fun x => (gZ x.1 x.2).bind fun y => some (⟨kd, op, key, sq, cl, dg, x.1, y.1⟩, y.2)
noncomputable def rz6 (kd op : Nat) (key : List UInt8) (sq cl : Nat) (l : List UInt8) : Option (RD × List UInt8) := (gT l 1).bind fun f => rz7 kd op key sq cl f.1 f.2
noncomputable def rz5 (kd op : Nat) (key : List UInt8) (sq : Nat) (l : List UInt8) : Option (RD × List UInt8) := (gN l 1).bind fun e => rz6 kd op key sq e.1 e.2
noncomputable def rz4 (kd op : Nat) (key : List UInt8) (l : List UInt8) : Option (RD × List UInt8) := (gN l 6).bind fun d => rz5 kd op key d.1 d.2
noncomputable def rz3 (kd op : Nat) (l : List UInt8) : Option (RD × List UInt8) := (gT l 1).bind fun c => rz4 kd op c.1 c.2
noncomputable def rz2 (kd : Nat) (l : List UInt8) : Option (RD × List UInt8) := (gN l 4).bind fun b => rz3 kd b.1 b.2
noncomputable def rz1 (l : List UInt8) : Option (RD × List UInt8) := (gN l 1).bind fun a => rz2 a.1 a.2
theorem rz_1 (l : List UInt8) : rz l = rz1 l := rfl
section
variable {kd op sq cl : Nat} {key dg l x R : List UInt8} {n : Nat}
theorem rz1_no (h : gN l 1 = none) : rz1 l = none := by unfold rz1; rw [h]; rfl
theorem rz1_yes (h : gN l 1 = some (n, R)) : rz1 l = rz2 n R := by unfold rz1; rw [h]; rfl
theorem rz2_no (h : gN l 4 = none) : rz2 kd l = none := by unfold rz2; rw [h]; rfl
theorem rz2_yes (h : gN l 4 = some (n, R)) : rz2 kd l = rz3 kd n R := by unfold rz2; rw [h]; rfl
theorem rz3_no (h : gT l 1 = none) : rz3 kd op l = none := by unfold rz3; rw [h]; rfl
theorem rz3_yes (h : gT l 1 = some (x, R)) : rz3 kd op l = rz4 kd op x R := by unfold rz3; rw [h]; rfl
theorem rz4_no (h : gN l 6 = none) : rz4 kd op key l = none := by unfold rz4; rw [h]; rfl
theorem rz4_yes (h : gN l 6 = some (n, R)) : rz4 kd op key l = rz5 kd op key n R := by unfold rz4; rw [h]; rfl
theorem rz5_no (h : gN l 1 = none) : rz5 kd op key sq l = none := by unfold rz5; rw [h]; rfl
theorem rz5_yes (h : gN l 1 = some (n, R)) : rz5 kd op key sq l = rz6 kd op key sq n R := by unfold rz5; rw [h]; rfl
theorem rz6_no (h : gT l 1 = none) : rz6 kd op key sq cl l = none := by unfold rz6; rw [h]; rfl
theorem rz6_yes (h : gT l 1 = some (x, R)) : rz6 kd op key sq cl l = rz7 kd op key sq cl x R := by unfold rz6; rw [h]; rfl
theorem rz7_no (h : gT l 2 = none) : rz7 kd op key sq cl dg l = none := by unfold rz7; rw [h]; rfl
theorem rz7_yes (h : gT l 2 = some (x, R)) : rz7 kd op key sq cl dg l = (gZ x R).bind fun y => some (⟨kd, op, key, sq, cl, dg, x, y.1⟩, y.2) := by unfold rz7; rw [h]; rfl
end
theorem gZ_nil (l : List UInt8) : gZ [] l = some ([], l) := by unfold gZ; rw [if_pos rfl]
theorem gZ_no {X l : List UInt8} (hX : X ≠ []) (h : gX X = false) : gZ X l = none := by unfold gZ; rw [if_neg hX, if_neg (by rw [h]; exact Bool.false_ne_true)]
theorem gZ_yes {X l : List UInt8} (hX : X ≠ []) (h : gX X = true) : gZ X l = gY l (bf X 0) := by unfold gZ; rw [if_neg hX, if_pos h]
theorem gY_up {l : List UInt8} : ∀ {k n : Nat}, gY l k = none → k ≤ n → gY l n = none
 | k, 0, h, hn => by
  obtain rfl : k = 0 := Nat.le_zero.1 hn
  exact h
 | k, n + 1, h, hn => by
  by_cases e : k = n + 1
  ·rw [← e]; exact h
  ·unfold gY
   rw [gY_up h (show k ≤ n by omega)]
theorem gY_s {l : List UInt8} {k : Nat} {ts : List (List UInt8)} {r : List UInt8} (h : gY l k = some (ts, r)) : gY l (k + 1) = match gT r 1 with | none => none | some (t, r') => if okT t then some (ts ++ [t], r') else none := by
 show (match gY l k with | none => none | some (ts, r) => match gT r 1 with | none => none | some (t, r') => if okT t then some (ts ++ [t], r') else none) = _
 rw [h]
/-- The matrix of bytes. -/
noncomputable def nX (X : List UInt8) : Nat := @dite _ (XOk X) (Classical.propDecidable _) (fun h => Classical.choose h) fun _ => 0
noncomputable def kX (X : List UInt8) : Nat := @dite _ (XOk X) (Classical.propDecidable _) (fun h => Classical.choose (Classical.choose_spec h)) fun _ => 0
noncomputable def GX (X : List UInt8) : Nat → Nat := @dite _ (XOk X) (Classical.propDecidable _) (fun h => Classical.choose (Classical.choose_spec (Classical.choose_spec h))) fun _ _ => 0
theorem nX_ok {X : List UInt8} (h : XOk X) : XmV (nX X) (kX X) (GX X) ∧ X = xmL (nX X) (kX X) (GX X) := by
 have h1 := Classical.choose_spec (Classical.choose_spec (Classical.choose_spec h))
 unfold nX kX GX
 rw [dif_pos h, dif_pos h, dif_pos h]
 exact h1
theorem nX_no {X : List UInt8} (h : ¬ XOk X) : nX X = 0 := dif_neg h
theorem xok_nil : ¬ XOk [] := by
 rintro ⟨n, k, G, h, e⟩
 cases e
theorem nX_nil : nX [] = 0 := nX_no xok_nil
theorem nX_is {X : List UInt8} {n k : Nat} {G : Nat → Nat} (h : XmV n k G) (e : X = xmL n k G) : nX X = n ∧ kX X = k ∧ ∀ t, t < n * k → GX X t = G t := by
 obtain ⟨h1, h2⟩ := nX_ok ⟨n, k, G, h, e⟩
 obtain ⟨a, b, c⟩ := xmL_det h1 h (h2.symm.trans e)
 refine ⟨a, b, fun t ht => c t (by rw [a, b]; exact ht)⟩
theorem nX_le (X : List UInt8) : nX X ≤ 25 := by
 by_cases h : XOk X
 ·exact (nX_ok h).1.n2
 ·rw [nX_no h]; omega
theorem nX_bf {X : List UInt8} (h : XOk X) : nX X = bf X 0 ∧ 1 ≤ nX X := by
 obtain ⟨h1, h2⟩ := nX_ok h
 refine ⟨?_, h1.n1⟩
 have e : bf X 0 = bf (xmL (nX X) (kX X) (GX X)) 0 := congrArg (fun l => bf l 0) h2
 rw [e]
 have := h1.n2
 unfold bf xmL
 show _ = (UInt8.ofNat (nX X)).toNat
 rw [UInt8.toNat_ofNat_of_lt' (show nX X < 256 by omega)]
noncomputable def NX (X : List UInt8) : Nat → Nat := fun _ => kX X
noncomputable def MZ (X : List UInt8) : Nat → Nat → Nat := fun a b => GX X (a * kX X + b)
theorem kX_le (X : List UInt8) : kX X ≤ 7 := by
 by_cases h : XOk X
 ·exact (nX_ok h).1.k2
 ·unfold kX; rw [dif_neg h]; omega
theorem ixw_lt {n k i j : Nat} (hi : i < n) (hj : j < k) : i * k + j < n * k := by
 have : (i + 1) * k ≤ n * k := Nat.mul_le_mul_right k hi
 rw [Nat.succ_mul] at this
 omega
theorem MZ_lt {X : List UInt8} (h : XOk X) : ∀ i, i < nX X → ∀ j, j < kX X → MZ X i j < 2 ^ 256 := fun i hi j hj => (nX_ok h).1.lt _ (ixw_lt hi hj)
theorem xmB_ofw {n k : Nat} {G : Nat → Nat} (h : XmV n k G) : xmB n (fun _ => k) (fun a b => G (a * k + b)) = xmL n k G := by
 have hT : tbB n (fun _ => k) = true := by
  rw [tbB_end (N := fun _ => k) (fun j _ => ⟨rfl, h.k1, h.k2⟩), decide_eq_true (by have := h.n1; omega), decide_eq_true (by have := h.n2; omega)]
  rfl
 unfold xmB
 rw [if_pos hT]
 show UInt8.ofNat n :: UInt8.ofNat k :: xmT _ (n * k) = UInt8.ofNat n :: UInt8.ofNat k :: xmT _ (n * k)
 rw [xmT_congr (G' := G) (fun t ht => by
  show G (t / k * k + t % k) = G t
  rw [Nat.mul_comm, Nat.div_add_mod])]
theorem xmB_0 (N : Nat → Nat) (M : Nat → Nat → Nat) : xmB 0 N M = [] := by
 unfold xmB
 rw [if_neg]
 unfold tbB ccB
 simp
theorem xmB_X {X : List UInt8} (h : X = [] ∨ XOk X) : xmB (nX X) (NX X) (MZ X) = X := by
 rcases h with rfl | h
 ·rw [nX_nil, xmB_0]
 ·obtain ⟨h1, h2⟩ := nX_ok h
  exact (xmB_ofw h1).trans h2.symm
/-- A matrix' rows in memory. -/
theorem nats_ro {w : World} {g n : Nat} {f : Nat → Nat} {t : TypeId} (h : Row w g (nsC n f) t) (lt : ∀ i, i < n → f i < 2 ^ 256) : NatsAt w (some ⟨g, 0, none⟩) n f g 0 (nsC n f) t :=
 ⟨.inr ⟨rfl, h.r, fun i hi j v hv => nsC_part n f i hi (0 + i * 4) (by omega) j v hv⟩, lt⟩
theorem mtA_fam {w : World} {gM base n k : Nat} {R : Nat → Nat} {V : Nat → Nat → Nat} {t : TypeId} (r : Row w gM (vsC n (fun j => .slice (some ⟨R j, 0, none⟩) k k)) t) (h : FamAt w base k R V n) (lt : ∀ i, i < n → ∀ j, j < k → V i j < 2 ^ 256) : MtA w (some ⟨gM, 0, none⟩) n (fun _ => k) V :=
 ⟨_, gM, 0, _, _, ⟨.inr ⟨rfl, r.r, fun i hi => by rw [Nat.zero_add, Nat.mul_one]; exact vsC_get _ hi⟩⟩, fun i hi => ⟨_, _, R i, 0, _, _, rfl, nats_ro (h.row i hi) (lt i hi)⟩⟩
theorem nrAt_congr {w : World} {v : Value} {n : Nat} {F F' : Nat → Nat} (h : NrAt w v n F) (he : ∀ j, j < n → F j = F' j) : NrAt w v n F' := by
 obtain ⟨ab, c, gb, ob, bcs, tb, rfl, hn⟩ := h
 exact ⟨ab, c, gb, ob, bcs, tb, rfl, hn.at'.imp id fun ⟨h1, h2, h3⟩ => ⟨h1, h2, fun i hi j v hv => h3 i hi j v (by rw [he i hi]; exact hv)⟩, fun i hi => by rw [← he i hi]; exact hn.lt i hi⟩
/-- matrix.Take, told by the bytes alone. -/
theorem mtk_yes (X : List UInt8) (w : World) (hl : X.length < 4611686018427387904) (h : XOk X) :
  Calls Try.prog 33 #[.string ⟨X.toArray⟩] w fun e w' => ∃ gM R, e = .returned (.tuple #[.slice (some ⟨gM, 0, none⟩) (nX X) (nX X), .int .i64 0]) ∧ w.heap.size ≤ gM ∧ Row w' gM (vsC (nX X) (fun j => .slice (some ⟨R j, 0, none⟩) (kX X) (kX X))) 27 ∧ FamAt w' w.heap.size (kX X) R (MZ X) (nX X) ∧ Below w.heap.size w w' := by
 refine (mtake_any X w hl).mono ?_
 rintro e w' ⟨h1 | h1, hb⟩
 ·obtain ⟨n, k, G, gM, R, hv, he, rfl, hg, rM, hM⟩ := h1
  obtain ⟨a, b, c⟩ := nX_is hv he
  refine ⟨gM, R, by rw [a], hg, by rw [a, b]; exact rM, ?_, hb⟩
  rw [a, b]
  exact hM.congr fun j hj i hi => by
   show G (j * k + i) = GX X (j * kX X + i)
   rw [b, c _ (ixw_lt hj hi)]
 ·exact absurd h (fun ⟨n, k, G, hv, he⟩ => h1.1 n k G hv he)
theorem mtk_no (X : List UInt8) (w : World) (hl : X.length < 4611686018427387904) (h : ¬ XOk X) :
  Calls Try.prog 33 #[.string ⟨X.toArray⟩] w fun e w' => e = .returned (.tuple #[.slice none 0 0, .int .i64 4]) ∧ Below w.heap.size w w' := by
 refine (mtake_any X w hl).mono ?_
 rintro e w' ⟨h1 | h1, hb⟩
 ·obtain ⟨n, k, G, gM, R, hv, he, _⟩ := h1
  exact absurd ⟨n, k, G, hv, he⟩ h
 ·exact ⟨h1.2, hb⟩
/-- A natural of each text. -/
def Yt (ts : List (List UInt8)) (i : Nat) : Nat := takeN ⟨(ts.getD i []).toArray⟩
theorem Yt_lt (ts : List (List UInt8)) (i : Nat) : Yt ts i < 2 ^ 256 := takeN_lt _
theorem Yt_app (ts : List (List UInt8)) (t : List UInt8) (i : Nat) : Yt (ts ++ [t]) i = if i = ts.length then takeN ⟨t.toArray⟩ else Yt ts i := by
 unfold Yt
 by_cases e : i = ts.length
 ·subst e
  rw [if_pos rfl, List.getD_eq_getElem?_getD, List.getElem?_append_right (Nat.le_refl _), Nat.sub_self]
  rfl
 ·rw [if_neg e, List.getD_eq_getElem?_getD, List.getD_eq_getElem?_getD]
  by_cases h : i < ts.length
  ·rw [List.getElem?_append_left h]
  ·rw [List.getElem?_eq_none (by rw [List.length_append, List.length_singleton]; omega), List.getElem?_eq_none (by omega)]
/-- May the message be? -/
noncomputable def wmD (d : RD) : Bool := wmB d.kd d.op d.key d.sq d.cl d.dg (brB (nX d.X) d.ys.length) (dlB (nX d.X) d.ys.length d.X)
/-- What is taken. -/
noncomputable def tz (s : List UInt8) : Option RD :=
 if s.length ≤ 8192 then match rz s with
  | some (d, []) => if wmD d = true then some d else none
  | _ => none
 else none
theorem tz_long {s : List UInt8} (h : ¬ s.length ≤ 8192) : tz s = none := if_neg h
theorem tz_none {s : List UInt8} (h : rz s = none) : tz s = none := by
 unfold tz
 rw [h]
 split <;> rfl
theorem tz_more {s : List UInt8} {d : RD} {R : List UInt8} (h : rz s = some (d, R)) (hR : R ≠ []) : tz s = none := by
 unfold tz
 rw [h]
 cases R with
 | nil => exact absurd rfl hR
 | cons a r => split <;> rfl
theorem tz_bad {s : List UInt8} {d : RD} (h : rz s = some (d, [])) (hw : wmD d = false) : tz s = none := by
 unfold tz
 rw [h]
 simp only [hw, Bool.false_eq_true, if_false]
 split <;> rfl
theorem tz_ok {s : List UInt8} {d : RD} (hl : s.length ≤ 8192) (h : rz s = some (d, [])) (hw : wmD d = true) : tz s = some d := by
 unfold tz
 rw [if_pos hl, h]
 simp only [hw, if_true]
theorem tz_is {s : List UInt8} {d : RD} (h : tz s = some d) : s.length ≤ 8192 ∧ rz s = some (d, []) ∧ wmD d = true := by
 unfold tz at h
 split at h
 ·rename_i hl
  split at h
  ·rename_i d' hr
   split at h
   ·rename_i hw
    simp only [Option.some.injEq] at h
    subst h
    exact ⟨hl, hr, hw⟩
   ·cases h
  ·cases h
 ·cases h
/-- A message as it is told. -/
noncomputable def mD (d : RD) (a1 : Option Addr) (c1 : Nat) (a2 : Option Addr) (c2 : Nat) : Array Value := msC (d.kd : Nat) (d.op : Nat) d.key (d.sq : Nat) (d.cl : Nat) d.dg a1 (nX d.X) c1 a2 d.ys.length c2
def InM (w : World) (d : RD) (a1 a2 : Option Addr) : Prop := MtA w a1 (nX d.X) (NX d.X) (MZ d.X) ∧ YsA w a2 d.ys.length (Yt d.ys)
theorem InM.below {w w2 : World} {d : RD} {a1 a2 : Option Addr} (h : InM w d a1 a2) (hb : Below w.heap.size w w2) : InM w2 d a1 a2 := ⟨h.1.below hb, h.2.below hb⟩
/-- The same, whatever is written elsewhere than between two places. -/
def InR (L U : Nat) (w : World) (d : RD) (a1 a2 : Option Addr) : Prop := ∀ (w3 : World) (S : List Nat), Kept S w w3 → (∀ g ∈ S, g < L ∨ U ≤ g) → InM w3 d a1 a2
theorem InR.self {L U : Nat} {w : World} {d : RD} {a1 a2 : Option Addr} (h : InR L U w d a1 a2) : InM w d a1 a2 := h w [] (Kept.refl _ _) (by simp)
theorem Kept.more {S T : List Nat} {w w2 : World} (h : Kept S w w2) (hs : ∀ g ∈ S, g ∈ T) : Kept T w w2 := ⟨h.os, h.tape, h.output, h.size, fun b hb hn => h.block b hb fun hm => hn (hs b hm)⟩
theorem InR.on {L U : Nat} {w w2 : World} {d : RD} {a1 a2 : Option Addr} (h : InR L U w d a1 a2) {S : List Nat} (k : Kept S w w2) (hS : ∀ g ∈ S, g < L ∨ U ≤ g) : InR L U w2 d a1 a2 := fun w3 T k3 hT =>
 h w3 (S ++ T) ((k.more (T := S ++ T) (fun g hg => List.mem_append_left _ hg)).trans k3 (fun g hg => .inl (List.mem_append_right _ hg))) (fun g hg => (List.mem_append.1 hg).elim (hS g) (hT g))
theorem InR.less {L U L' U' : Nat} {w : World} {d : RD} {a1 a2 : Option Addr} (h : InR L U w d a1 a2) (hc : L' ≤ L) (hu : U ≤ U') : InR L' U' w d a1 a2 := fun w3 S k hS => h w3 S k (fun g hg => (hS g hg).imp (fun x => Nat.lt_of_lt_of_le x hc) (fun x => Nat.le_trans hu x))
theorem InR.below {L U : Nat} {w w2 : World} {d : RD} {a1 a2 : Option Addr} (h : InR L U w d a1 a2) (hb : Below w.heap.size w w2) : InR L U w2 d a1 a2 := h.on (Kept.ofBelow hb) (by simp)
end Go.Proofs.Ytojobffihlmfgaa
