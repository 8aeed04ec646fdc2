import Derived.Test.YtgdalihjpemjiaaGreatPyFun
import Derived.OwnWalk
set_option maxRecDepth 100000
set_option maxHeartbeats 2000000
namespace Go.Proofs.YtgdalihjpemjiaaGreat
open Go.RowKit
set_option linter.unusedVariables false
set_option linter.unusedSectionVars false
section
variable {Q : Nat} [NeZero Q]
def PlA (w : World) (v : Value) (L : List (Fin Q)) : Prop := ∃ ab n c F gb ob bcs tb, v = .slice ab n c ∧ n ≤ 1000 ∧ NatsAt w ab n F gb ob bcs tb ∧ fl n F = L
def PlAt (w : World) (v : Value) (L : List (Fin Q)) : Prop := ∃ ab c gb ob bcs tb, v = .slice ab L.length c ∧ NatsAt w ab L.length (fun i => (pco L i).val) gb ob bcs tb
theorem PlA.below {w w' : World} {v : Value} {L : List (Fin Q)} (h : PlA w v L) (hb : Below w.heap.size w w') : PlA w' v L := by
 obtain ⟨ab, n, c, F, gb, ob, bcs, tb, h1, h2, h3, h4⟩ := h
 exact ⟨ab, n, c, F, gb, ob, bcs, tb, h1, h2, h3.below hb, h4⟩
theorem PlAt.below {w w' : World} {v : Value} {L : List (Fin Q)} (h : PlAt w v L) (hb : Below w.heap.size w w') : PlAt w' v L := by
 obtain ⟨ab, c, gb, ob, bcs, tb, h1, h3⟩ := h
 exact ⟨ab, c, gb, ob, bcs, tb, h1, h3.below hb⟩
theorem PlAt.arg {w : World} {v : Value} {L : List (Fin Q)} (h : PlAt w v L) (hl : L.length ≤ 1000) : PlA w v L := by
 obtain ⟨ab, c, gb, ob, bcs, tb, h1, h3⟩ := h
 exact ⟨ab, _, c, _, gb, ob, bcs, tb, h1, hl, h3, fl_of L⟩
theorem NatsAt.pl {w : World} {ab : Option Addr} {n c : Nat} {F : Nat → Nat} {gb ob : Nat} {bcs : Array Value} {tb : TypeId} (h : NatsAt w ab n F gb ob bcs tb) (hn : n ≤ 1000) : PlA w (.slice ab n c) (fl n F : List (Fin Q)) :=
 ⟨ab, n, c, F, gb, ob, bcs, tb, rfl, hn, h, rfl⟩
theorem plAt_nil (w : World) : PlAt w (.slice none 0 0) ([] : List (Fin Q)) := ⟨none, 0, 0, 0, #[], 0, rfl, ⟨.inl rfl, fun i hi => by simp at hi⟩⟩
theorem plAt_of {w : World} {g n : Nat} {F : Nat → Nat} {L : List (Fin Q)} (r : Row w g (nsC n F) 40) (hQ : Q < 2 ^ 256) (hF : ∀ i, i < n → F i < Q) (hL : ∀ i, pco (fl n F : List (Fin Q)) i = pco L i) : PlAt w (.slice (some ⟨g, 0, none⟩) (yTn F n) n) (ptrim L) := by
 obtain ⟨h1, h2⟩ := tn_of n F L hF hL
 have h := (nats_row r fun i hi => Nat.lt_trans (hF i hi) hQ).take (yTn_le F n)
 rw [h1] at h h2
 rw [h1]
 exact ⟨_, _, _, _, _, _, rfl, h.congr fun i hi => h2 i hi⟩
section
variable {g gr gf P G : Nat} {w : World}
theorem mulQ (va vb : Value) (La Lb : List (Fin Q)) (q : FdQ Q) (h : GrpAt w g gr gf P Q G) (ha : PlA w va La) (hb : PlA w vb Lb) :
  Calls Tryz.prog 127 #[.pointer (some ⟨g, 0, none⟩), va, vb] w fun e w' => ∃ v, e = .returned v ∧ PlAt w' v (pmul La Lb) ∧ Below w.heap.size w w' := by
 obtain ⟨ab, n, c, F, gb, ob, bcs, tb, rfl, hn, hna, rfl⟩ := ha
 obtain ⟨ae, m, ce, E, ge, oe, ecs, te, rfl, hm, hnb, rfl⟩ := hb
 refine (pmul_any _ ab ae n c m ce F E (fO Q) gb ob ge oe bcs ecs tb te w hn hm hna hnb (h.fa q)).mono ?_
 rintro e w' ⟨gx, rfl, _, r, hb⟩
 have ea : (fl (yTn (yTm (fO Q) F) n) (yTm (fO Q) F) : List (Fin Q)) = ptrim (fl n F) := by
  have h1 := tn_of n (yTm (fO Q) F) (fl n F : List (Fin Q)) (fun i _ => yTm_lt F i) (fun i => by rw [yTm_of])
  exact fl_pco _ _ _ h1.1 h1.2
 have eb : (fl (yTn (yTm (fO Q) E) m) (yTm (fO Q) E) : List (Fin Q)) = ptrim (fl m E) := by
  have h1 := tn_of m (yTm (fO Q) E) (fl m E : List (Fin Q)) (fun i _ => yTm_lt E i) (fun i => by rw [yTm_of])
  exact fl_pco _ _ _ h1.1 h1.2
 have hp := plAt_of (L := pmul (fl n F) (fl m E)) r q.m (fun i _ => yCv_lt _ _ _ _ _) fun i => by rw [yMl_of, ea, eb, pmul_trims]
 rw [pmul_trim] at hp
 exact ⟨_, rfl, hp, hb⟩
theorem evalQ (va : Value) (La : List (Fin Q)) (x : Nat) (hx : x < 2 ^ 256) (q : FdQ Q) (h : GrpAt w g gr gf P Q G) (ha : PlA w va La) :
  Calls Tryz.prog 91 #[.pointer (some ⟨g, 0, none⟩), va, .agg (natC x)] w fun e w' => e = .returned (.agg (natC (pev (fi x) La).val)) ∧ Below w.heap.size w w' := by
 obtain ⟨ab, n, c, F, gb, ob, bcs, tb, rfl, hn, hna, rfl⟩ := ha
 have := peval_any (some ⟨g, 0, none⟩) ab n c x F (fO Q) gb ob bcs tb w (by omega) hx hna (h.fa q)
 rw [yHv_of] at this
 exact this
end
end
def yTk (q : Nat) (lo : Nat) (B : Nat → Nat) (c : Nat) (R : Nat → Nat) (k i : Nat) : Nat := if lo ≤ i ∧ i < lo + k then sbN (R i) (B (i - lo) * c % q) q else R i
section
variable {Q : Nat} [NeZero Q]
end
theorem pgrp_any (v f : Option Addr) (P Q G : Nat) (r : Option Addr) (w : World) (h : KnAt w v P Q G r f) :
  Calls Tryz.prog 124 #[.pointer v] w fun e w' => e = .returned (.bool (!f.isNone)) ∧ Below w.heap.size w w' := by
 have hf := fun w' (hb : Below w.heap.size w w') => grpField_any v P Q G r f w' (h.below hb)
 go_enter Tryz.func124, Tryz.ntmps124
 have sb := sbmk w
 iterate 2 go_step
 refine rp ?_
 refine p_v (.bool false) (fun _ => rfl) ?_
 simp only [pv]
 refine pw_nil ?_
 iterate 3 go_step
 refine rp ?_
 refine p_m ?_
 simp only [pv]
 refine pw_callB (by rfl) 69 _ _ rfl Tryz.func69 (by kernel_rfl) #[.pointer v] rfl _ (hf _ sb) ?_
 intro z1001 k
 simp only [pv]
 replace sb := kk sb k
 clear k
 refine p_v (.bool (!f.isNone)) (exec_neq_nilp _ _ _ _ rfl f rfl rfl ptr_ring8) ?_
 refine p_a ?_
 simp only [pv]
 refine pw_nil ?_
 go_wp2
 go_ret
 exact ⟨rfl, sb⟩
theorem built_one : Tryz.prog.built 40 [(0, .int .u64 1)] = some (natC 1) := by kernel_rfl
def ivF {Q : Nat} [NeZero Q] (x : Fin Q) : Fin Q := fi (invZ x.val Q)
theorem ivF_is {Q : Nat} [NeZero Q] (q : FdQ Q) (a : Fin Q) (h : a ≠ 0) : a * ivF a = 1 := by
 have h1 : a.val % Q ≠ 0 := by
  rw [Nat.mod_eq_of_lt a.isLt]
  exact fun e => h ((val_z a).1 e)
 have h2 := inv_1 q.pr h1
 have h3 : (fi (a.val * invZ a.val Q) : Fin Q) = fi 1 := (fi_eq _ _).2 (by rw [h2, Nat.mod_eq_of_lt (by have := q.pr.1; omega)])
 rw [fi_mul, fi_of] at h3
 exact h3
theorem lit1_pl {Q : Nat} [NeZero Q] {w : World} {g A : Nat} (r : Row w g (natC A) 40) (hA : A < 2 ^ 256) : PlA w (.slice (some ⟨g, 0, none⟩) 1 1) [(fi A : Fin Q)] := by
 exact (nats_one r hA).pl (by decide)
theorem lit2_pl {Q : Nat} [NeZero Q] {w : World} {g A B : Nat} (r : Row w g (natC A ++ natC B) 40) (hA : A < 2 ^ 256) (hB : B < 2 ^ 256) : PlA w (.slice (some ⟨g, 0, none⟩) 2 2) [(fi A : Fin Q), fi B] := by
 exact (nats_two r hA hB).pl (by decide)
end Go.Proofs.YtgdalihjpemjiaaGreat
