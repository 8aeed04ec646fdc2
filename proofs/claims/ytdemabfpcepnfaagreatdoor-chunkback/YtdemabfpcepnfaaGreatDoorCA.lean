/- Plain mathematics of layer 11: a value's bytes, its parts, their numbers; what numbers tell. -/
import Derived.Test.YtdemabfpcepnfaaGreatDoorBT
import Derived.Shelf.Strings.Repeat
import Derived.Test.YtdemabfpcepnfaaGreatDoorGA
import Derived.Test.YtdemabfpcepnfaaGreatDoorTD
namespace Go.Proofs.YtdemabfpcepnfaaGreatDoor
/-- How many parts so many bytes fill. -/
def pN (n z : Nat) : Nat := (n + z - 1) / z
theorem pN_ge {n z : Nat} (hz : 0 < z) : n ≤ pN n z * z := by
 unfold pN
 have h := Nat.div_add_mod (n + z - 1) z
 have h2 := Nat.mod_lt (n + z - 1) hz
 rw [Nat.mul_comm] at h
 omega
theorem pN_lt {n z : Nat} (hz : 0 < z) : pN n z * z < n + z := by
 unfold pN
 have h := Nat.div_mul_le_self (n + z - 1) z
 omega
theorem pN_le {n z : Nat} (hz : 0 < z) : pN n z ≤ n := by
 have h := pN_lt (n := n) hz
 by_cases hn : n = 0
 ·subst hn
  have : pN 0 z * z < 1 * z := by omega
  have := Nat.lt_of_mul_lt_mul_right this
  omega
 ·unfold pN
  refine Nat.le_of_lt_succ ((Nat.div_lt_iff_lt_mul hz).2 ?_)
  have e : (n - 1) * 1 ≤ (n - 1) * z := Nat.mul_le_mul_left _ hz
  have e2 : (n + 1) * z = (n - 1) * z + z + z := by
   obtain ⟨m, rfl⟩ : ∃ m, n = m + 1 := ⟨n - 1, by omega⟩
   rw [Nat.add_sub_cancel, Nat.add_mul, Nat.add_mul]
   omega
  show n + z - 1 < (n + 1) * z
  omega
theorem pN_pos {n z : Nat} (hz : 0 < z) (hn : 0 < n) : 0 < pN n z := by
 have := pN_ge (n := n) hz
 rcases Nat.eq_zero_or_pos (pN n z) with h | h
 ·rw [h] at this; omega
 ·exact h
/-- A value's bytes, none's. -/
def ckL (v : List UInt8) (t : Bool) : List UInt8 := bif t then UInt8.ofNat (v.length + 1) :: v else [0]
theorem ckL_pos (v : List UInt8) (t : Bool) : 0 < (ckL v t).length := by cases t <;> simp [ckL]
theorem ckL_len {v : List UInt8} (t : Bool) (h : v.length ≤ 24) : (ckL v t).length ≤ 25 := by cases t <;> simp [ckL]; exact h
theorem ckL_none (v : List UInt8) : ckL v false = [0] := rfl
theorem ckL_some (v : List UInt8) : ckL v true = UInt8.ofNat (v.length + 1) :: v := rfl
/-- Bytes, and noughts behind that fill the last part. -/
def padz (s : List UInt8) (z : Nat) : List UInt8 := s ++ List.replicate (pN s.length z * z - s.length) 0
theorem padz_length {s : List UInt8} {z : Nat} (hz : 0 < z) : (padz s z).length = pN s.length z * z := by
 have := pN_ge (n := s.length) hz
 simp [padz]
 omega
/-- A part, its number. -/
def prt (s : List UInt8) (z k : Nat) : List UInt8 := ((padz s z).drop (k * z)).take z
def ckF (s : List UInt8) (z k : Nat) : Nat := natB (prt s z k)
theorem prt_length {s : List UInt8} {z k : Nat} (hz : 0 < z) (hk : k < pN s.length z) : (prt s z k).length = z := by
 have h : (k + 1) * z ≤ pN s.length z * z := Nat.mul_le_mul_right _ hk
 rw [Nat.add_mul] at h
 simp [prt, padz_length hz]
 omega
theorem prt_le (s : List UInt8) (z k : Nat) : (prt s z k).length ≤ z := by simp [prt]; omega
theorem ckF_lt (s : List UInt8) (z k : Nat) : ckF s z k < 2 ^ (8 * z) :=
 Nat.lt_of_lt_of_le (natB_lt _) (Nat.pow_le_pow_right (by decide) (by have := prt_le s z k; omega))
theorem ckF_256 {z : Nat} (s : List UInt8) (k : Nat) (hz : z ≤ 32) : ckF s z k < 2 ^ 256 :=
 Nat.lt_of_lt_of_le (ckF_lt s z k) (Nat.pow_le_pow_right (by decide) (by omega))
/-- A number's bytes, filled up. -/
def flz (z A : Nat) : List UInt8 := List.replicate (z - need A) 0 ++ bytesL A (need A)
theorem flz_length (z A : Nat) : z ≤ (flz z A).length := by
 simp [flz, bytesL_length]
 omega
theorem need_to {A z : Nat} (h : A < 2 ^ (8 * z)) : need A ≤ z := by
 have := bitLen_le A (8 * z) h
 unfold need
 omega
theorem lt_need (A : Nat) : A < 2 ^ (8 * need A) := by
 have h : A < 2 ^ bitLen A := by
  unfold bitLen
  split
  ·rename_i h; subst h; decide
  ·exact Nat.lt_log2_self
 exact Nat.lt_of_lt_of_le h (Nat.pow_le_pow_right (by decide) (by unfold need; omega))
theorem byt_over {A i : Nat} (h : need A ≤ i) : byt A i = 0 := by
 unfold byt
 rw [Nat.div_eq_of_lt (Nat.lt_of_lt_of_le (lt_need A) (Nat.pow_le_pow_right (by decide) (by omega)))]
theorem flz_fit {z A : Nat} (h : A < 2 ^ (8 * z)) : flz z A = bytesL A z := by
 have hn := need_to h
 unfold flz bytesL
 apply List.ext_getElem
 ·simp; omega
 ·intro i h1 h2
  simp at h1 h2
  by_cases hi : i < z - need A
  ·rw [List.getElem_append_left (by simpa using hi)]
   simp
   rw [byt_over (by omega)]
   rfl
  ·rw [List.getElem_append_right (by simpa using hi)]
   simp
   congr 2
   omega
theorem bytes_natB (l : List UInt8) : bytesL (natB l) l.length = l := by
 apply List.ext_getElem
 ·rw [bytesL_length]
 ·intro i h1 h2
  rw [bytesL_get _ _ _ h1, natB_byt l _ (by omega)]
  simp [show l.length - 1 - (l.length - 1 - i) = i by omega]
/-- The bytes of numbers, one behind the other. -/
def jn (z : Nat) (f : Nat → Nat) : Nat → List UInt8
 | 0 => []
 | n + 1 => jn z f n ++ flz z (f n)
theorem jn_length (z : Nat) (f : Nat → Nat) : ∀ n, n * z ≤ (jn z f n).length
 | 0 => by simp
 | n + 1 => by
  have h1 := jn_length z f n
  have h2 := flz_length z (f n)
  rw [jn, List.length_append, Nat.add_mul]
  omega
theorem flz_le {z A : Nat} (hz : z ≤ 32) (hA : A < 2 ^ 256) : (flz z A).length ≤ 32 := by
 have := need_le A hA
 simp [flz, bytesL_length]
 omega
theorem jn_le {z : Nat} {f : Nat → Nat} (hz : z ≤ 32) (hf : ∀ k, f k < 2 ^ 256) : ∀ n, (jn z f n).length ≤ 32 * n
 | 0 => by simp [jn]
 | n + 1 => by
  have h1 := jn_le hz hf n
  have h2 := flz_le hz (hf n)
  rw [jn, List.length_append]
  omega
theorem jn_congr {z : Nat} {f g : Nat → Nat} : ∀ n, (∀ k, k < n → f k = g k) → jn z f n = jn z g n
 | 0, _ => rfl
 | n + 1, h => by rw [jn, jn, jn_congr n fun k hk => h k (by omega), h n (by omega)]
theorem jn_parts {s : List UInt8} {z : Nat} (hz : 0 < z) : ∀ k, k ≤ pN s.length z → jn z (ckF s z) k = (padz s z).take (k * z)
 | 0, _ => by simp [jn]
 | k + 1, h => by
  have hl := prt_length hz (show k < pN s.length z by omega)
  rw [jn, jn_parts hz k (by omega), flz_fit (ckF_lt _ _ _)]
  have : bytesL (ckF s z k) z = prt s z k := by
   have h := bytes_natB (prt s z k)
   rw [hl] at h
   exact h
  rw [this, prt, Nat.add_mul, Nat.one_mul, List.take_add]
theorem jn_all {s : List UInt8} {z : Nat} (hz : 0 < z) : jn z (ckF s z) (pN s.length z) = padz s z := by
 rw [jn_parts hz _ (Nat.le_refl _), List.take_of_length_le (by rw [padz_length hz]; exact Nat.le_refl _)]
/-- What bytes tell. -/
def tdT (s : List UInt8) : Bool := !decide ((s.getD 0 0).toNat = 0)
def tdV (s : List UInt8) : List UInt8 := bif tdT s then (s.take (min (s.getD 0 0).toNat s.length)).drop 1 else []
theorem td_pd {v : List UInt8} {t : Bool} {z : Nat} (h : v.length ≤ 24) (ht : t = false → v = []) : tdT (padz (ckL v t) z) = t ∧ tdV (padz (ckL v t) z) = v := by
 cases t with
 | false =>
  have e : tdT (padz (ckL v false) z) = false := rfl
  refine ⟨e, ?_⟩
  unfold tdV
  rw [e, ht rfl]
  rfl
 | true =>
  have e0 : (UInt8.ofNat (v.length + 1)).toNat = v.length + 1 := by
   rw [UInt8.toNat_ofNat']
   omega
  have e1 : ((padz (ckL v true) z).getD 0 0).toNat = v.length + 1 := e0
  have e : tdT (padz (ckL v true) z) = true := by
   unfold tdT
   rw [e1]
   simp
  refine ⟨e, ?_⟩
  unfold tdV
  rw [e, e1]
  have hl : v.length + 1 ≤ (padz (ckL v true) z).length := by simp [padz, ckL]
  rw [Nat.min_eq_left hl]
  show ((UInt8.ofNat (v.length + 1) :: v ++ List.replicate _ 0).take (v.length + 1)).drop 1 = v
  rw [List.cons_append, List.take_succ_cons, List.drop_one, List.tail_cons, List.take_left]
/-- Are these a value's numbers, or none's? -/
def ckIs (z n : Nat) (f : Nat → Nat) (v : List UInt8) (t : Bool) : Prop := v.length ≤ 24 ∧ n = pN (ckL v t).length z ∧ ∀ k, k < n → f k = ckF (ckL v t) z k
open Classical in
/-- What numbers tell. -/
noncomputable def tkR (z n : Nat) (f : Nat → Nat) : Option (List UInt8 × Bool) := if ckIs z n f (tdV (jn z f n)) (tdT (jn z f n)) then some (tdV (jn z f n), tdT (jn z f n)) else none
theorem ckIs_jn {z n : Nat} {f : Nat → Nat} {v : List UInt8} {t : Bool} (hz : 0 < z) (h : ckIs z n f v t) : jn z f n = padz (ckL v t) z := by
 obtain ⟨_, hn, hf⟩ := h
 rw [jn_congr n hf, hn, jn_all hz]
theorem tkR_of {z n : Nat} {f : Nat → Nat} {v : List UInt8} {t : Bool} (hz : 0 < z) (h : ckIs z n f v t) (ht : t = false → v = []) : tkR z n f = some (v, t) := by
 have hj := ckIs_jn hz h
 obtain ⟨e1, e2⟩ := td_pd (z := z) h.1 ht
 unfold tkR
 rw [hj, e1, e2, if_pos h]
theorem tdV_no {s : List UInt8} (h : tdT s = false) : tdV s = [] := by
 unfold tdV
 rw [h]
 rfl
theorem tkR_is {z n : Nat} {f : Nat → Nat} {v : List UInt8} {t : Bool} (h : tkR z n f = some (v, t)) : ckIs z n f v t ∧ (t = false → v = []) := by
 unfold tkR at h
 split at h
 ·rename_i hc
  cases h
  exact ⟨hc, tdV_no⟩
 ·cases h
theorem tkR_not {z n : Nat} {f : Nat → Nat} (h : ¬ ckIs z n f (tdV (jn z f n)) (tdT (jn z f n))) : tkR z n f = none := by
 unfold tkR
 rw [if_neg h]
theorem ckIs_pos {z n : Nat} {f : Nat → Nat} {v : List UInt8} {t : Bool} (hz : 0 < z) (h : ckIs z n f v t) : 0 < n ∧ n ≤ 25 := by
 obtain ⟨h1, h2, _⟩ := h
 subst h2
 exact ⟨pN_pos hz (ckL_pos v t), Nat.le_trans (pN_le hz) (ckL_len t h1)⟩
theorem tkR_few {z n : Nat} {f : Nat → Nat} (hz : 0 < z) (h : n = 0 ∨ 25 < n) : tkR z n f = none :=
 tkR_not fun hc => by have := ckIs_pos hz hc; omega
theorem tkR_big {z n : Nat} {f : Nat → Nat} {i : Nat} (hi : i < n) (h : ¬ f i < 2 ^ (8 * z)) : tkR z n f = none :=
 tkR_not fun hc => h (by rw [hc.2.2 i hi]; exact ckF_lt _ _ _)
theorem tkR_over {z n : Nat} {f : Nat → Nat} (hz : 0 < z) (h : (jn z f n).length < ((jn z f n).getD 0 0).toNat ∨ 25 < ((jn z f n).getD 0 0).toNat) : tkR z n f = none := by
 cases hr : tkR z n f with
 | none => rfl
 | some y =>
  exfalso
  obtain ⟨v, t⟩ := y
  obtain ⟨hc, ht⟩ := tkR_is hr
  have hj := ckIs_jn hz hc
  rw [hj] at h
  cases t with
  | false =>
   have e1 : ((padz (ckL v false) z).getD 0 0).toNat = 0 := rfl
   rw [e1] at h
   omega
  | true =>
   have hv := hc.1
   have e0 : (UInt8.ofNat (v.length + 1)).toNat = v.length + 1 := by
    rw [UInt8.toNat_ofNat']
    omega
   have e1 : ((padz (ckL v true) z).getD 0 0).toNat = v.length + 1 := e0
   have hl : v.length + 1 ≤ (padz (ckL v true) z).length := by simp [padz, ckL]
   rw [e1] at h
   omega
noncomputable def tkV (z n : Nat) (f : Nat → Nat) : List UInt8 := match tkR z n f with | none => [] | some y => y.1
noncomputable def tkT (z n : Nat) (f : Nat → Nat) : Bool := match tkR z n f with | none => false | some y => y.2
noncomputable def tkE (z n : Nat) (f : Nat → Nat) : Int := match tkR z n f with | none => 4 | some _ => 0
theorem tk_none {z n : Nat} {f : Nat → Nat} (h : tkR z n f = none) : tkV z n f = [] ∧ tkT z n f = false ∧ tkE z n f = 4 := by
 unfold tkV tkT tkE
 rw [h]
 exact ⟨rfl, rfl, rfl⟩
theorem tk_some {z n : Nat} {f : Nat → Nat} {v : List UInt8} {t : Bool} (h : tkR z n f = some (v, t)) : tkV z n f = v ∧ tkT z n f = t ∧ tkE z n f = 0 := by
 unfold tkV tkT tkE
 rw [h]
 exact ⟨rfl, rfl, rfl⟩
/-- How many numbers so many bytes need. -/
def ckN (z : Nat) (n : Int) : Int := if 0 ≤ n ∧ n ≤ 24 then (pN (n.toNat + 1) z : Nat) else 0
end Go.Proofs.YtdemabfpcepnfaaGreatDoor
/- strings.Repeat of noughts; a strings.Builder's WriteString and String: at this program, by the library's contracts. -/
namespace Go.Proofs.YtdemabfpcepnfaaGreatDoor
open Go.Shelf Go.RowKit
def lays105_ren : Go.Shelf.Ren := ⟨fun | 105 => 53 | 212 => 75 | 99 => 76 | 165 => 77 | 166 => 58 | 170 => 78 | 169 => 59 | 263 => 98 | 264 => 99 | 206 => 100 | 240 => 83 | 241 => 101 | 276 => 105 | 277 => 108 | n => n, fun | 9 => 9 | 3 => 3 | 4 => 4 | 20 => 20 | 0 => 0 | 46 => 119 | 109 => 120 | 5 => 5 | 72 => 98 | 76 => 102 | 51 => 145 | 146 => 146 | 53 => 24 | 148 => 135 | 70 => 96 | 37 => 64 | 75 => 101 | 127 => 131 | 164 => 153 | 80 => 104 | n => n, fun | n => n⟩
theorem lays105 : Go.Proofs.Lays.n105 Tryz.prog lays105_ren := {
 mixed := by kernel_rfl
 f99 := Tryz.func76.trans (congrArg some (by kernel_rfl))
 f105 := Tryz.func53.trans (congrArg some (by kernel_rfl))
 f165 := Tryz.func77.trans (congrArg some (by kernel_rfl))
 f166 := Tryz.func58.trans (congrArg some (by kernel_rfl))
 f169 := Tryz.func59.trans (congrArg some (by kernel_rfl))
 f170 := Tryz.func78.trans (congrArg some (by kernel_rfl))
 f206 := Tryz.func100.trans (congrArg some (by kernel_rfl))
 f212 := Tryz.func75.trans (congrArg some (by kernel_rfl))
 f240 := Tryz.func83.trans (congrArg some (by kernel_rfl))
 f241 := Tryz.func101.trans (congrArg some (by kernel_rfl))
 f263 := Tryz.func98.trans (congrArg some (by kernel_rfl))
 f264 := Tryz.func99.trans (congrArg some (by kernel_rfl))
 f276 := Tryz.func105.trans (congrArg some (by kernel_rfl))
 f277 := Tryz.func108.trans (congrArg some (by kernel_rfl))
 t0 := Tryz.underlying0
 a0 := Tryz.isAgg0
 z0 := Tryz.sizeOf0
 v0 := Tryz.zeroValue0
 t3 := Tryz.underlying3
 a3 := Tryz.isAgg3
 z3 := Tryz.sizeOf3
 v3 := Tryz.zeroValue3
 t4 := Tryz.underlying4
 a4 := Tryz.isAgg4
 z4 := Tryz.sizeOf4
 v4 := Tryz.zeroValue4
 t5 := Tryz.underlying5
 a5 := Tryz.isAgg5
 z5 := Tryz.sizeOf5
 v5 := Tryz.zeroValue5
 t9 := Tryz.underlying9
 a9 := Tryz.isAgg9
 z9 := Tryz.sizeOf9
 v9 := Tryz.zeroValue9
 t20 := Tryz.underlying20
 a20 := Tryz.isAgg20
 z20 := Tryz.sizeOf20
 v20 := Tryz.zeroValue20
 t37 := Tryz.underlying64
 a37 := Tryz.isAgg64
 z37 := Tryz.sizeOf64
 v37 := Tryz.zeroValue64
 t46 := Tryz.underlying119
 a46 := Tryz.isAgg119
 z46 := Tryz.sizeOf119
 v46 := Tryz.zeroValue119
 t51 := Tryz.underlying145
 a51 := Tryz.isAgg145
 z51 := Tryz.sizeOf145
 v51 := Tryz.zeroValue145
 t53 := Tryz.underlying24
 a53 := Tryz.isAgg24
 z53 := Tryz.sizeOf24
 v53 := Tryz.zeroValue24
 t70 := Tryz.underlying96
 a70 := Tryz.isAgg96
 z70 := Tryz.sizeOf96
 v70 := Tryz.zeroValue96
 t72 := Tryz.underlying98
 a72 := Tryz.isAgg98
 z72 := Tryz.sizeOf98
 v72 := Tryz.zeroValue98
 t75 := Tryz.underlying101
 a75 := Tryz.isAgg101
 z75 := Tryz.sizeOf101
 v75 := Tryz.zeroValue101
 t76 := Tryz.underlying102
 a76 := Tryz.isAgg102
 z76 := Tryz.sizeOf102
 v76 := Tryz.zeroValue102
 t109 := Tryz.underlying120
 a109 := Tryz.isAgg120
 z109 := Tryz.sizeOf120
 v109 := Tryz.zeroValue120
 t127 := Tryz.underlying131
 a127 := Tryz.isAgg131
 z127 := Tryz.sizeOf131
 v127 := Tryz.zeroValue131
 t146 := Tryz.underlying146
 a146 := Tryz.isAgg146
 z146 := Tryz.sizeOf146
 v146 := Tryz.zeroValue146
 t148 := Tryz.underlying135
 a148 := Tryz.isAgg135
 z148 := Tryz.sizeOf135
 v148 := Tryz.zeroValue135
 t164 := Tryz.underlying153
 a164 := Tryz.isAgg153
 z164 := Tryz.sizeOf153
 v164 := Tryz.zeroValue153 }
theorem bextra105 : Builder.Extra Tryz.prog lays105_ren := {
 sizeBuilder := by kernel_rfl
 liesBuilder := by kernel_rfl
 t5 := Tryz.underlying5
 a5 := Tryz.isAgg5
 z5 := Tryz.sizeOf5
 v5 := Tryz.zeroValue5
 infoByte := by kernel_rfl
 cellsByte := by kernel_rfl
 sizeByte := by kernel_rfl
 neB5 := by decide }
theorem rep_list (k : Nat) : Lib.repeatL [0] k = List.replicate k 0 := by
 induction k with
 | zero => rfl
 | succ k ih => rw [Lib.repeatL, ih]; rfl
theorem repeat_any (k : Nat) (w : World) (hk : k ≤ 100000) :
  Calls Tryz.prog 53 #[.string { data := #[0] }, .int .i64 k] w fun e w' => e = .returned (.string ⟨(List.replicate k 0).toArray⟩) ∧ Below w.heap.size w w' := by
 have h := Any.strings_Repeat lays105 bextra105 { data := #[0] } k w (by omega) (by show 1 * k ≤ _; omega)
 rw [show (({ data := #[0] } : ByteArray).data.toList) = [0] from rfl, rep_list] at h
 exact h
/-- A builder of the call's own, and its bytes. -/
def BuAt (w : World) (B b : Nat) (l : List UInt8) : Prop := Lib.IsBuilder 98 5 B b (Lib.byteCells l) w
theorem bu_below {B g0 : Nat} {p : Value} {bs : List Value} {w w' : World} (h : Lib.BuilderAt 98 5 B g0 p bs w) (hb : Below w.heap.size w w') : Lib.BuilderAt 98 5 B g0 p bs w' := by
 obtain ⟨hB, v, hbk, hown, hne⟩ := h
 refine ⟨hB, v, (hb.block g0 (Array.getElem?_eq_some_iff.1 hbk).1).trans hbk, ?_, hne⟩
 exact hown.kept (row := none) ⟨hb.os, hb.tape, hb.output, hb.size, fun k hk _ => hb.block k hk⟩ (by cases v.ownBlock <;> simp)
theorem BuAt.below {B b : Nat} {l : List UInt8} {w w' : World} (h : BuAt w B b l) (hb : Below w.heap.size w w') : BuAt w' B b l := h.imp (fun h => bu_below h hb) (fun h => bu_below h hb)
theorem BuAt.fresh {B b : Nat} {w : World} (hB : B ≤ b) (h : Row w b #[.pointer none, .slice none 0 0] 98) : BuAt w B b [] :=
 Or.inl ⟨hB, .slice none 0 0, h, World.ownsRow_nil _ _ _ _, by simp [Value.ownBlock]⟩
theorem wstr_any (B b : Nat) (l s : List UInt8) (w : World) (h : BuAt w B b l) (hlen : l.length + s.length ≤ 100000) (hBw : B ≤ w.heap.size) :
  Calls Tryz.prog 58 #[.pointer (some ⟨b, 0, none⟩), .string ⟨s.toArray⟩] w fun e w' => e = .returned (.tuple #[.int .i64 s.length, .nilIface]) ∧ BuAt w' B b (l ++ s) ∧ Below B w w' := by
 have hs : (⟨s.toArray⟩ : ByteArray).size = s.length := by simp [ByteArray.size]
 have h1 := Any.Builder_WriteString { lays105 with } bextra105 B b (Lib.byteCells l) ⟨s.toArray⟩ w h (by rw [Lib.byteCells_length, hs]; omega) hBw
 rw [hs] at h1
 refine h1.mono fun e w' ⟨he, hb, hl⟩ => ⟨he, .inr ?_, hl⟩
 have e2 : Lib.byteCells l ++ Lib.strCells ⟨s.toArray⟩ = Lib.byteCells (l ++ s) := by simp [Lib.byteCells, Lib.strCells]
 rw [← e2]
 exact hb
theorem bstr_any (B b : Nat) (l : List UInt8) (w : World) (h : BuAt w B b l) (hBw : B ≤ w.heap.size) :
  Calls Tryz.prog 59 #[.pointer (some ⟨b, 0, none⟩)] w fun e w' => e = .returned (.string ⟨l.toArray⟩) ∧ Below B w w' := Any.Builder_String_any { lays105 with } bextra105 B b l w h hBw
end Go.Proofs.YtdemabfpcepnfaaGreatDoor
/- chunk's functions; slices.Equal of naturals. -/
namespace Go.Proofs.YtdemabfpcepnfaaGreatDoor
open Go.RowKit
set_option linter.unusedVariables false
theorem y_cat {P : Program} {o : Oper} {ρ : Operand → Value} (t : TypeId) (x y : Operand) (u : TypeId) (ho : o.op = .binOp .add t x y u) (a b : List UInt8) (hx : ρ x = .string ⟨a.toArray⟩) (hy : ρ y = .string ⟨b.toArray⟩) (h : a.length + b.length ≤ 9223372036854775807) (w : World) :
  (execOp ρ o).run P w = .ok (.value (.string ⟨(a ++ b).toArray⟩)) w := by
 have hr := run_string_add_sum (P := P) w ⟨a.toArray⟩ ⟨b.toArray⟩ (by simpa [ByteArray.size] using h)
 rw [ByteArray.mk_append_mk] at hr
 unfold execOp
 simp only [ho, hx, hy]
 simp [eqGuard, binOp, hr]
theorem y_max {P : Program} {o : Oper} {ρ : Operand → Value} (x y : Operand) (ts : Array TypeId) (ho : o.op = .call { callee := .builtin .max, args := #[x, y], argTypes := ts }) (n m r : Int) (hx : ρ x = .int .i64 n) (hy : ρ y = .int .i64 m) (hr : (if m > n then m else n) = r) (w : World) :
  (execOp ρ o).run P w = .ok (.value (.int .i64 r)) w := by
 subst hr
 unfold execOp
 simp only [ho]
 simp [resolve, invoke, builtin, hx, hy, Builtin.max_, Builtin.max2]
/-- What a group's Size answers. -/
def SzAt (w : World) (v : Option Addr) (z : Int) : Prop := ∀ w', Below w.heap.size w w' → Calls Tryz.prog 52 #[.pointer v] w' fun e w2 => e = .returned (.int .i64 z) ∧ Below w'.heap.size w' w2
theorem SzAt.below {w w' : World} {v : Option Addr} {z : Int} (h : SzAt w v z) (hb : Below w.heap.size w w') : SzAt w' v z := fun w2 h2 => h w2 (below_on hb (Nat.le_refl _) h2)
theorem KnAt.sz {w : World} {v : Option Addr} {P Q G : Nat} {r f : Option Addr} (hQ : Q < 2 ^ 256) (h : KnAt w v P Q G r f) : SzAt w v (sizeZ Q) := fun w' hb => grpSize_any v P Q G r f w' hQ (h.below hb)
theorem made_nats (n : Nat) : madeCells (Value.agg #[.int .u64 0, .int .u64 0, .int .u64 0, .int .u64 0]).cells (n * 4) = nsC n (fun _ => 0) := by
 apply Array.ext_getElem?
 intro i
 by_cases hi : i < n * 4
 ·rw [nsC_get n _ i (by omega)]
  have h0 : lm 0 (i % 4) = 0 := by simp [lm]
  rw [h0]
  unfold madeCells
  have hm : i % 4 = 0 ∨ i % 4 = 1 ∨ i % 4 = 2 ∨ i % 4 = 3 := by omega
  rcases hm with h | h | h | h <;> simp [hi, Value.cells, h]
 ·rw [Array.getElem?_eq_none (by rw [size_madeCells]; omega), Array.getElem?_eq_none (by rw [nsC_size]; omega)]
theorem nats_row {w : World} {g n : Nat} {f : Nat → Nat} (h : Row w g (nsC n f) 26) (hf : ∀ i, i < n → f i < 2 ^ 256) : NatsAt w (some ⟨g, 0, none⟩) n f g 0 (nsC n f) 26 :=
 ⟨.inr ⟨rfl, h.r, fun i hi => nsC_part n f i hi _ (by omega)⟩, hf⟩
theorem info_u8y : (Tryz.prog.info? 5).map (fun i => (i.zero, i.size)) = some (some (.int .u8 0), 1) := by kernel_rfl
theorem info_u8k : ∃ i, Tryz.prog.info? 5 = some i ∧ i.zero = some (Value.int .u8 0) ∧ i.size = 1 := by
 cases hi : Tryz.prog.info? 5 with
 | none => have := info_u8y; rw [hi] at this; cases this
 | some i =>
  have h := info_u8y
  rw [hi] at h
  simp only [Option.map_some, Option.some.injEq, Prod.mk.injEq] at h
  exact ⟨i, rfl, h.1, h.2⟩
theorem lit_b1 (a : Int) (k : Nat) (hk : k = 1) : Instr.fill (fun i => some (i * k, k)) ((Array.range (1 * k)).map ((Value.int .u8 0).cells[· % (Value.int .u8 0).cells.size]!)) [(0, .int .u8 a)] = some #[.int .u8 a] := by
 subst hk
 kernel_rfl
theorem cell_b1 (x : Nat) (h : x < 256) : ∀ j, j < [UInt8.ofNat x].length → (#[.int .u8 (x : Int)] : Array Value)[0 + j]? = some (.int .u8 (yb [UInt8.ofNat x] j : Nat)) := by
 intro j hj
 obtain rfl : j = 0 := by simpa using hj
 have : yb [UInt8.ofNat x] 0 = x := by
  unfold yb
  simp [UInt8.toNat_ofNat']
  omega
 rw [this]
 rfl
theorem wr8k (x : Nat) (h : x < 256) : IntKind.u8.wrap (x : Int) = (x : Int) := by rw [IntKind.wrap_u8']; omega
theorem parts_wrap {n z : Nat} (hz : 0 < z) (hb : n < 100000) : IntKind.i64.wrap (((n + z - 1 : Nat) : Int).tdiv (z : Int)) = ((pN n z : Nat) : Int) := by
 have e : ((n + z - 1 : Nat) : Int).tdiv (z : Int) = ((pN n z : Nat) : Int) := by rw [← Int.ofNat_tdiv]; rfl
 have := pN_le (n := n) hz
 rw [e, IntKind.wrap_i64]
 omega
theorem zero_buk (w : World) : (zeroValue 98).run Tryz.prog w = .ok (.agg #[.pointer none, .slice none 0 0]) w := Tryz.zeroValue98 w
set_option maxRecDepth 100000 in
set_option maxHeartbeats 2000000 in
theorem isG_any (v : Option Addr) (z : Int) (B : Bool) (w : World) (hB : decide (0 < z) = B) (h : SzAt w v z) :
  Calls Tryz.prog 28 #[.pointer v] w fun e w' => e = .returned (.bool B) ∧ Below w.heap.size w w' := by
 go_enter Tryz.func28, Tryz.ntmps28
 have sb := sbmk w
 (repeat ((fail_if_success with_reducible refine rg ?_); go_step))
 refine wp_region_pw ?_
 refine pw_value (by rfl) (.bool false) (fun _ => rfl) ?_
 simp only [Act.put, pu]
 refine pw_nil ?_
 (repeat ((fail_if_success with_reducible refine rg ?_); go_step))
 refine wp_region_pw ?_
 refine pw_mv (by rfl) rfl rfl ?_
 simp only [Act.put, pu]
 refine pw_callB (by rfl) 52 _ _ rfl Tryz.func52 (by kernel_rfl) #[.pointer v] rfl _ (h _ sb) ?_
 intro z1001 k
 simp only [Act.put, pu]
 replace sb := sb.trans (k.below w.heap.size sb.size (by simp <;> omega))
 clear k
 refine pw_value (by rfl) (.bool B) (exec_gt_i _ _ _ _ rfl z 0 rfl rfl B hB) ?_
 simp only [Act.put, pu]
 refine pw_as (by rfl) rfl rfl ?_
 simp only [Act.put, pu]
 refine pw_nil ?_
 go_wp2
 go_ret
 exact ⟨rfl, sb⟩
set_option maxRecDepth 100000 in
set_option maxHeartbeats 2000000 in
theorem parts_any (v : Option Addr) (n z : Nat) (w : World) (hz : 0 < z) (hb : n + z < 100000) (h : SzAt w v z) :
  Calls Tryz.prog 34 #[.pointer v, .int .i64 n] w fun e w' => e = .returned (.int .i64 (pN n z : Nat)) ∧ Below w.heap.size w w' := by
 have hw := parts_wrap (n := n) hz (by omega)
 generalize pN n z = X at *
 go_enter Tryz.func34, Tryz.ntmps34
 have sb := sbmk w
 (repeat ((fail_if_success with_reducible refine rg ?_); go_step))
 refine wp_region_pw ?_
 refine pw_value (by rfl) (.int .i64 0) (fun _ => rfl) ?_
 simp only [Act.put, pu]
 refine pw_nil ?_
 (repeat ((fail_if_success with_reducible refine rg ?_); go_step))
 refine wp_region_pw ?_
 refine pw_mv (by rfl) rfl rfl ?_
 simp only [Act.put, pu]
 refine pw_mv (by rfl) rfl rfl ?_
 simp only [Act.put, pu]
 refine pw_callB (by rfl) 52 _ _ rfl Tryz.func52 (by kernel_rfl) #[.pointer v] rfl _ (h _ sb) ?_
 intro z1002 k
 simp only [Act.put, pu]
 replace sb := sb.trans (k.below w.heap.size sb.size (by simp <;> omega))
 clear k
 refine pw_value (by rfl) (.int .i64 ((n + z : Nat) : Int)) (exec_add_in _ _ _ _ rfl n z rfl rfl (by omega)) ?_
 simp only [Act.put, pu]
 refine pw_value (by rfl) (.int .i64 ((n + z - 1 : Nat) : Int)) (exec_sub_in _ _ _ _ rfl (n + z) 1 rfl rfl (by omega) (by omega)) ?_
 simp only [Act.put, pu]
 refine pw_mv (by rfl) rfl rfl ?_
 simp only [Act.put, pu]
 refine pw_callB (by rfl) 52 _ _ rfl Tryz.func52 (by kernel_rfl) #[.pointer v] rfl _ (h _ sb) ?_
 intro z1006 k
 simp only [Act.put, pu]
 replace sb := sb.trans (k.below w.heap.size sb.size (by simp <;> omega))
 clear k
 refine pw_value (by rfl) (.int .i64 (X : Nat)) (y_quoI _ _ _ _ rfl ((n + z - 1 : Nat) : Int) z _ rfl rfl (by omega) hw) ?_
 simp only [Act.put, pu]
 refine pw_as (by rfl) rfl rfl ?_
 simp only [Act.put, pu]
 refine pw_nil ?_
 go_wp2
 go_ret
 exact ⟨rfl, sb⟩
set_option maxRecDepth 100000 in
set_option maxHeartbeats 2000000 in
theorem numbers_any (v : Option Addr) (z : Nat) (s : List UInt8) (w : World) (hz : 0 < z) (hz2 : z ≤ 32) (hs : s.length ≤ 1000) (h : SzAt w v z) :
  Calls Tryz.prog 29 #[.pointer v, .string ⟨(s).toArray⟩] w fun e w' => ∃ g, e = .returned (.slice (some ⟨g, 0, none⟩) (pN s.length z) (pN s.length z)) ∧ w.heap.size ≤ g ∧ Row w' g (nsC (pN s.length z) (ckF s z)) 26 ∧ Below w.heap.size w w' := by
 have hpa := fun w' (hb : Below w.heap.size w w') => parts_any v s.length z w' hz (by omega) (h.below hb)
 have htk : ∀ (l : List UInt8) w', l.length ≤ 32 → Calls Tryz.prog 54 #[.string ⟨(trimL l).toArray⟩] w' fun e w2 => e = .returned (.tuple #[.agg (natC (natB l)), .int .i64 0]) ∧ Below w'.heap.size w' w2 := by
  intro l w' hl
  have h := ntake_any ⟨(trimL l).toArray⟩ w'
  rw [(take_trim l hl).1, (take_trim l hl).2] at h
  exact h
 have h1 := pN_ge (n := s.length) hz
 have h2 := pN_le (n := s.length) hz
 have h3 := pN_lt (n := s.length) hz
 have hpl := padz_length (s := s) hz
 have hpd : padz s z = s ++ List.replicate (pN s.length z * z - s.length) 0 := rfl
 have hprt := fun k => prt_le s z k
 have hmul := fun k (hk : k < pN s.length z) => Nat.mul_le_mul_right z hk
 obtain ⟨ie, hie, hze, hsz, hby⟩ := info_nat'
 generalize pN s.length z = n at *
 obtain ⟨M, hM⟩ : ∃ M, n * z = M := ⟨_, rfl⟩
 rw [hM] at h1 h3 hpl hpd
 have HM : Hid (∀ k, k < n → (k + 1) * z ≤ M) := fun k hk => by
  have := hmul k hk
  rw [hM] at this
  exact this
 clear hmul
 go_enter Tryz.func29, Tryz.ntmps29
 have sb := sbmk w
 (repeat ((fail_if_success with_reducible refine rg ?_); go_step))
 refine wp_region_pw ?_
 refine pw_value (by rfl) (.slice none 0 0) ((fun _ => rfl)) ?_
 simp only [Act.put, pu]
 refine pw_nil ?_
 (repeat ((fail_if_success with_reducible refine rg ?_); go_step))
 refine wp_region_pw ?_
 refine pw_mv (by rfl) rfl rfl ?_
 simp only [Act.put, pu]
 refine pw_callB (by rfl) 52 _ _ rfl Tryz.func52 (by kernel_rfl) #[.pointer v] rfl _ (h _ sb) ?_
 intro z1001 k
 simp only [Act.put, pu]
 replace sb := sb.trans (k.below w.heap.size sb.size (by simp <;> omega))
 clear k
 refine pw_as (by rfl) rfl rfl ?_
 simp only [Act.put, pu]
 refine pw_nil ?_
 (repeat ((fail_if_success with_reducible refine rg ?_); go_step))
 refine wp_region_pw ?_
 refine pw_mv (by rfl) rfl rfl ?_
 simp only [Act.put, pu]
 refine pw_mv (by rfl) rfl rfl ?_
 simp only [Act.put, pu]
 refine pw_value (by rfl) (.int .i64 s.length) (y_lenS _ _ rfl s rfl Tryz.underlying9) ?_
 simp only [Act.put, pu]
 refine pw_callB (by rfl) 34 _ _ rfl Tryz.func34 (by kernel_rfl) #[.pointer v, .int .i64 (s.length : Nat)] rfl _ (hpa _ sb) ?_
 intro z2003 k
 simp only [Act.put, pu]
 replace sb := sb.trans (k.below w.heap.size sb.size (by simp <;> omega))
 clear k
 refine pw_make (by rfl) 34 26 _ _ rfl ie _ Tryz.underlying34 hie hze n rfl rfl (by rw [hsz]; omega) (by rw [hby]; omega) (by omega) ?_
 intro gM z2004 n0 rM k
 simp only [Act.put, pu]
 have bM := Nat.le_trans sb.size n0
 clear n0
 replace sb := sb.trans (k.below w.heap.size sb.size (by simp <;> omega))
 clear k
 refine pw_as (by rfl) rfl rfl ?_
 simp only [Act.put, pu]
 refine pw_nil ?_
 rw [hsz, made_nats] at rM
 clear hpa h
 (repeat ((fail_if_success with_reducible refine rg ?_); go_step))
 refine wp_region_pw ?_
 refine pw_mv (by rfl) rfl rfl ?_
 simp only [Act.put, pu]
 refine pw_mv (by rfl) rfl rfl ?_
 simp only [Act.put, pu]
 refine pw_value (by rfl) (.int .i64 n) (exec_len_s 34 _ rfl (some ⟨gM, 0, none⟩) n n rfl sl_natsX) ?_
 simp only [Act.put, pu]
 refine pw_mv (by rfl) rfl rfl ?_
 simp only [Act.put, pu]
 refine pw_value (by rfl) (.int .i64 (M : Nat)) (exec_mul_in _ _ _ _ rfl n z M rfl rfl hM (by omega)) ?_
 simp only [Act.put, pu]
 refine pw_mv (by rfl) rfl rfl ?_
 simp only [Act.put, pu]
 refine pw_value (by rfl) (.int .i64 s.length) (y_lenS _ _ rfl s rfl Tryz.underlying9) ?_
 simp only [Act.put, pu]
 refine pw_value (by rfl) (.int .i64 ((M - s.length : Nat) : Int)) (exec_sub_in _ _ _ _ rfl M s.length rfl rfl (by omega) (by omega)) ?_
 simp only [Act.put, pu]
 refine pw_callB (by rfl) 53 _ _ rfl Tryz.func53 (by kernel_rfl) #[.string { data := #[0] }, .int .i64 ((M - s.length : Nat) : Int)] rfl _ (repeat_any _ _ (by omega)) ?_
 intro z3008 k
 simp only [Act.put, pu]
 replace rM := k.row rM (by simp <;> omega)
 replace sb := sb.trans (k.below w.heap.size sb.size (by simp <;> omega))
 clear k
 refine pw_value (by rfl) (.string ⟨(padz s z).toArray⟩) (fun w' => (y_cat _ _ _ _ rfl s (List.replicate (M - s.length) 0) rfl rfl (by rw [List.length_replicate]; omega) w').trans (by rw [← hpd])) ?_
 simp only [Act.put, pu]
 refine pw_as (by rfl) rfl rfl ?_
 simp only [Act.put, pu]
 refine pw_nil ?_
 have hMb : M ≤ 1100 := by omega
 clear hpd h1 h3
 (repeat ((fail_if_success with_reducible refine rg ?_); go_step))
 refine wp_region_pw ?_
 refine pw_mv (by rfl) rfl rfl ?_
 simp only [Act.put, pu]
 refine pw_value (by rfl) (.int .i64 n) (exec_len_s 34 _ rfl (some ⟨gM, 0, none⟩) n n rfl sl_natsX) ?_
 simp only [Act.put, pu]
 refine pw_value (by rfl) (.int .i64 0) (fun _ => rfl) ?_
 simp only [Act.put, pu]
 refine pw_nil ?_
 go_wp2_with fail
 go_loopg [8, 9, 29] n (fun g s8 s9 s29 wr => ∃ k : Nat, k + g = n ∧ s29 = .int .i64 k ∧ Row wr gM (nsC n (fun j => if j < k then ckF s z j else 0)) 26 ∧ Below w.heap.size w wr)
 case atStart => exact ⟨0, by omega, rfl, by rw [show (fun j => if j < 0 then ckF s z j else 0) = fun _ => 0 from funext fun j => if_neg (by omega)]; exact rM, sb⟩
 case round =>
  clear rM sb
  obtain ⟨k, hk, rfl, rM, sb⟩ := hrel
  cases gk with
  | zero =>
   obtain rfl : k = n := by omega
   clear hk HM htk
   rw [nsC_congr k _ (ckF s z) (fun j hj => if_pos hj)] at rM
   (repeat ((fail_if_success with_reducible refine rg ?_); go_step))
   refine wp_region_pw ?_
   refine pw_value (by rfl) (.bool false) (exec_lt_b _ _ _ _ rfl k k rfl rfl false (decide_eq_false (Int.lt_irrefl _))) ?_
   simp only [Act.put, pu]
   refine pw_nil ?_
   (repeat ((fail_if_success with_reducible refine rg ?_); go_step))
   refine wp_region_pw ?_
   refine pw_mv (by rfl) rfl rfl ?_
   simp only [Act.put, pu]
   refine pw_as (by rfl) rfl rfl ?_
   simp only [Act.put, pu]
   refine pw_nil ?_
   go_wp2
   go_ret
   exact ⟨gM, rfl, bM, rM, sb⟩
  | succ g =>
   have hlt : k < n := by omega
   have hkM := HM.out k hlt
   have hadd : (k + 1) * z = k * z + z := by rw [Nat.add_mul, Nat.one_mul]
   obtain ⟨A, hA⟩ : ∃ A, k * z = A := ⟨_, rfl⟩
   rw [hadd, hA] at hkM
   have hA2 : (k + 1) * z = A + z := by rw [hadd, hA]
   have hpr : ((padz s z).take (A + z)).drop A = prt s z k := by
    rw [take_mid]
    unfold prt
    rw [hA]
   have htk' := fun w' => htk (prt s z k) w' (Nat.le_trans (hprt k) hz2)
   have hput := nsC_put n (fun j => if j < k then ckF s z j else 0) (fun j => if j < k + 1 then ckF s z j else 0) k hlt (0 + k * 4) (by omega) (natB (prt s z k)) (fun j hj => by
    by_cases hjk : j = k
    ·subst hjk
     rw [if_pos (by omega), if_pos rfl]
     rfl
    ·rw [if_neg hjk]
     by_cases h2 : j < k
     ·rw [if_pos h2, if_pos (by omega)]
     ·rw [if_neg h2, if_neg (by omega)])
   clear htk hadd
   (repeat ((fail_if_success with_reducible refine rg ?_); go_step))
   refine wp_region_pw ?_
   refine pw_value (by rfl) (.bool true) (exec_lt_b _ _ _ _ rfl k n rfl rfl true (decide_eq_true (by omega))) ?_
   simp only [Act.put, pu]
   refine pw_nil ?_
   (repeat ((fail_if_success with_reducible refine rg ?_); go_step))
   refine wp_region_pw ?_
   refine pw_mv (by rfl) rfl rfl ?_
   simp only [Act.put, pu]
   refine pw_as (by rfl) rfl rfl ?_
   simp only [Act.put, pu]
   refine pw_nil ?_
   (repeat ((fail_if_success with_reducible refine rg ?_); go_step))
   refine wp_region_pw ?_
   refine pw_mv (by rfl) rfl rfl ?_
   simp only [Act.put, pu]
   refine pw_mv (by rfl) rfl rfl ?_
   simp only [Act.put, pu]
   refine pw_mv (by rfl) rfl rfl ?_
   simp only [Act.put, pu]
   refine pw_value (by rfl) (.int .i64 (A : Nat)) (exec_mul_in _ _ _ _ rfl k z A rfl rfl hA (by omega)) ?_
   simp only [Act.put, pu]
   refine pw_mv (by rfl) rfl rfl ?_
   simp only [Act.put, pu]
   refine pw_value (by rfl) (.int .i64 ((k + 1 : Nat) : Int)) (exec_add_in _ _ _ _ rfl k 1 rfl rfl (by omega)) ?_
   simp only [Act.put, pu]
   refine pw_mv (by rfl) rfl rfl ?_
   simp only [Act.put, pu]
   refine pw_value (by rfl) (.int .i64 ((A + z : Nat) : Int)) (exec_mul_in _ _ _ _ rfl (k + 1) z (A + z) rfl rfl hA2 (by omega)) ?_
   simp only [Act.put, pu]
   refine pw_value (by rfl) (.string ⟨(prt s z k).toArray⟩) (y_mid _ _ _ _ Tryz.underlying9 rfl (padz s z) A (A + z) rfl rfl rfl (by omega) (by omega) _ hpr) ?_
   simp only [Act.put, pu]
   refine pw_as (by rfl) rfl rfl ?_
   simp only [Act.put, pu]
   refine pw_nil ?_
   clear hpr hA hA2
   (repeat ((fail_if_success with_reducible refine rg ?_); go_step))
   refine wp_region_pw ?_
   refine pw_mv (by rfl) rfl rfl ?_
   simp only [Act.put, pu]
   refine pw_mv (by rfl) rfl rfl ?_
   simp only [Act.put, pu]
   refine pw_mv (by rfl) rfl rfl ?_
   simp only [Act.put, pu]
   refine pw_callB (by rfl) 55 _ _ rfl Tryz.func55 (by kernel_rfl) #[.string ⟨(prt s z k).toArray⟩, .string { data := #[0] }] rfl _ (trimLeft_any _ _) ?_
   intro z8003 k
   simp only [Act.put, pu]
   replace rM := k.row rM (by simp <;> omega)
   replace sb := sb.trans (k.below w.heap.size sb.size (by simp <;> omega))
   clear k
   refine pw_callB (by rfl) 54 _ _ rfl Tryz.func54 (by kernel_rfl) #[.string ⟨(trimL (prt s z k)).toArray⟩] rfl _ (htk' _) ?_
   intro z8004 k
   simp only [Act.put, pu]
   replace rM := k.row rM (by simp <;> omega)
   replace sb := sb.trans (k.below w.heap.size sb.size (by simp <;> omega))
   clear k
   refine pw_mv (by rfl) rfl rfl ?_
   simp only [Act.put, pu]
   refine pw_ext (by rfl) rfl rfl rfl ?_
   simp only [Act.put, pu]
   refine pw_ext (by rfl) rfl rfl rfl ?_
   simp only [Act.put, pu]
   refine pw_value (by rfl) (.pointer (some ⟨gM, 0 + k * 4, none⟩)) (exec_index_s 34 _ _ rfl gM 0 n n rfl k rfl hlt _ Tryz.underlying34 4 size_nat4) ?_
   simp only [Act.put, pu]
   refine pw_putm (by rfl) 26 _ _ rfl _ (0 + k * 4) rfl rM (natC (natB (prt s z k))) rfl (by exact size_nat) (by rw [nsC_size, natC_size]; omega) (natC_one _) (nsC n (fun j => if j < k + 1 then ckF s z j else 0)) hput ?_
   clear rM
   intro z8009 rM k
   simp only [Act.put]
   replace sb := sb.trans (k.below w.heap.size sb.size (by simp <;> omega))
   clear k
   refine pw_nil ?_
   clear hput
   (repeat ((fail_if_success with_reducible refine rg ?_); go_step))
   refine wp_region_pw ?_
   refine pw_value (by rfl) (.int .i64 ((k + 1 : Nat) : Int)) (exec_add_in _ _ _ _ rfl k 1 rfl rfl (by omega)) ?_
   simp only [Act.put, pu]
   refine pw_mv (by rfl) rfl rfl ?_
   simp only [Act.put, pu]
   refine pw_nil ?_
   go_wp2
   go_roundg g
   case measure => omega
   case rel => exact ⟨k + 1, by omega, rfl, rM, sb⟩
set_option maxRecDepth 100000 in
set_option maxHeartbeats 2000000 in
theorem put_nog (v : Option Addr) (s : List UInt8) (b : Bool) (w : World) (h : SzAt w v 0) :
  Calls Tryz.prog 9 #[.pointer v, .string ⟨(s).toArray⟩, .bool b] w fun e w' => e = .returned (.tuple #[.slice none 0 0, .int .i64 1]) ∧ Below w.heap.size w w' := by
 go_enter Tryz.func9, Tryz.ntmps9
 have sb := sbmk w
 (repeat ((fail_if_success with_reducible refine rg ?_); go_step))
 refine wp_region_pw ?_
 refine pw_value (by rfl) (.slice none 0 0) ((fun _ => rfl)) ?_
 simp only [Act.put, pu]
 refine pw_value (by rfl) (.int .i64 0) (fun _ => rfl) ?_
 simp only [Act.put, pu]
 refine pw_nil ?_
 (repeat ((fail_if_success with_reducible refine rg ?_); go_step))
 refine wp_region_pw ?_
 refine pw_mv (by rfl) rfl rfl ?_
 simp only [Act.put, pu]
 refine pw_callB (by rfl) 28 _ _ rfl Tryz.func28 (by kernel_rfl) #[.pointer v] rfl _ (isG_any v 0 false _ rfl (h.below sb)) ?_
 intro z1001 k
 simp only [Act.put, pu]
 replace sb := sb.trans (k.below w.heap.size sb.size (by simp <;> omega))
 clear k
 refine pw_value (by rfl) (.bool true) (exec_not _ _ rfl false rfl) ?_
 simp only [Act.put, pu]
 refine pw_nil ?_
 (repeat ((fail_if_success with_reducible refine rg ?_); go_step))
 refine wp_region_pw ?_
 refine pw_value (by rfl) (.slice none 0 0) ((fun _ => rfl)) ?_
 simp only [Act.put, pu]
 refine pw_value (by rfl) (.int .i64 1) (fun _ => rfl) ?_
 simp only [Act.put, pu]
 refine pw_nil ?_
 go_wp2
 go_ret2
 exact ⟨rfl, sb⟩
set_option maxRecDepth 100000 in
set_option maxHeartbeats 2000000 in
theorem put_none (v : Option Addr) (z : Nat) (s : List UInt8) (w : World) (hz : 0 < z) (hz2 : z ≤ 32) (h : SzAt w v z) :
  Calls Tryz.prog 9 #[.pointer v, .string ⟨(s).toArray⟩, .bool false] w fun e w' => ∃ g, e = .returned (.tuple #[.slice (some ⟨g, 0, none⟩) (pN (ckL s false).length z) (pN (ckL s false).length z), .int .i64 0]) ∧ w.heap.size ≤ g ∧ Row w' g (nsC (pN (ckL s false).length z) (ckF (ckL s false) z)) 26 ∧ Below w.heap.size w w' := by
 have hnu := fun w' (hb : Below w.heap.size w w') => numbers_any v z [0] w' hz hz2 (by decide) (h.below hb)
 go_enter Tryz.func9, Tryz.ntmps9
 have sb := sbmk w
 (repeat ((fail_if_success with_reducible refine rg ?_); go_step))
 refine wp_region_pw ?_
 refine pw_value (by rfl) (.slice none 0 0) ((fun _ => rfl)) ?_
 simp only [Act.put, pu]
 refine pw_value (by rfl) (.int .i64 0) (fun _ => rfl) ?_
 simp only [Act.put, pu]
 refine pw_nil ?_
 (repeat ((fail_if_success with_reducible refine rg ?_); go_step))
 refine wp_region_pw ?_
 refine pw_mv (by rfl) rfl rfl ?_
 simp only [Act.put, pu]
 refine pw_callB (by rfl) 28 _ _ rfl Tryz.func28 (by kernel_rfl) #[.pointer v] rfl _ (isG_any v z true _ (decide_eq_true (by omega)) (h.below sb)) ?_
 intro z1001 k
 simp only [Act.put, pu]
 replace sb := sb.trans (k.below w.heap.size sb.size (by simp <;> omega))
 clear k
 refine pw_value (by rfl) (.bool false) (exec_not _ _ rfl true rfl) ?_
 simp only [Act.put, pu]
 refine pw_nil ?_
 (repeat ((fail_if_success with_reducible refine rg ?_); go_step))
 refine wp_region_pw ?_
 refine pw_mv (by rfl) rfl rfl ?_
 simp only [Act.put, pu]
 refine pw_value (by rfl) (.bool true) (exec_not _ _ rfl false rfl) ?_
 simp only [Act.put, pu]
 refine pw_nil ?_
 (repeat ((fail_if_success with_reducible refine rg ?_); go_step))
 refine wp_region_pw ?_
 refine pw_mv (by rfl) rfl rfl ?_
 simp only [Act.put, pu]
 refine pw_callE (by rfl) 29 _ _ rfl Tryz.func29 (by kernel_rfl) #[.pointer v, .string { data := #[0] }] rfl (hnu _ sb) ?_
 rintro _ z4001 ⟨g, rfl, n', r', hb⟩
 refine ⟨_, rfl, ?_⟩
 simp only [Act.put, pu]
 have b' := Nat.le_trans sb.size n'
 clear n'
 have k := Kept.ofBelow hb
 clear hb
 replace sb := sb.trans (k.below w.heap.size sb.size (by simp <;> omega))
 clear k
 refine pw_as (by rfl) rfl rfl ?_
 simp only [Act.put, pu]
 refine pw_value (by rfl) (.int .i64 0) (fun _ => rfl) ?_
 simp only [Act.put, pu]
 refine pw_nil ?_
 go_wp2
 go_ret2
 exact ⟨g, rfl, b', r', sb⟩
set_option maxRecDepth 100000 in
set_option maxHeartbeats 2000000 in
theorem put_big (v : Option Addr) (z : Nat) (s : List UInt8) (w : World) (hz : 0 < z) (hs : 24 < s.length) (h : SzAt w v z) :
  Calls Tryz.prog 9 #[.pointer v, .string ⟨(s).toArray⟩, .bool true] w fun e w' => e = .returned (.tuple #[.slice none 0 0, .int .i64 6]) ∧ Below w.heap.size w w' := by
 go_enter Tryz.func9, Tryz.ntmps9
 have sb := sbmk w
 (repeat ((fail_if_success with_reducible refine rg ?_); go_step))
 refine wp_region_pw ?_
 refine pw_value (by rfl) (.slice none 0 0) ((fun _ => rfl)) ?_
 simp only [Act.put, pu]
 refine pw_value (by rfl) (.int .i64 0) (fun _ => rfl) ?_
 simp only [Act.put, pu]
 refine pw_nil ?_
 (repeat ((fail_if_success with_reducible refine rg ?_); go_step))
 refine wp_region_pw ?_
 refine pw_mv (by rfl) rfl rfl ?_
 simp only [Act.put, pu]
 refine pw_callB (by rfl) 28 _ _ rfl Tryz.func28 (by kernel_rfl) #[.pointer v] rfl _ (isG_any v z true _ (decide_eq_true (by omega)) (h.below sb)) ?_
 intro z1001 k
 simp only [Act.put, pu]
 replace sb := sb.trans (k.below w.heap.size sb.size (by simp <;> omega))
 clear k
 refine pw_value (by rfl) (.bool false) (exec_not _ _ rfl true rfl) ?_
 simp only [Act.put, pu]
 refine pw_nil ?_
 (repeat ((fail_if_success with_reducible refine rg ?_); go_step))
 refine wp_region_pw ?_
 refine pw_mv (by rfl) rfl rfl ?_
 simp only [Act.put, pu]
 refine pw_value (by rfl) (.bool false) (exec_not _ _ rfl true rfl) ?_
 simp only [Act.put, pu]
 refine pw_nil ?_
 (repeat ((fail_if_success with_reducible refine rg ?_); go_step))
 refine wp_region_pw ?_
 refine pw_mv (by rfl) rfl rfl ?_
 simp only [Act.put, pu]
 refine pw_value (by rfl) (.int .i64 s.length) (y_lenS _ _ rfl s rfl Tryz.underlying9) ?_
 simp only [Act.put, pu]
 refine pw_value (by rfl) (.bool true) (exec_gt_i _ _ _ _ rfl s.length 24 rfl rfl true (decide_eq_true (by omega))) ?_
 simp only [Act.put, pu]
 refine pw_nil ?_
 (repeat ((fail_if_success with_reducible refine rg ?_); go_step))
 refine wp_region_pw ?_
 refine pw_value (by rfl) (.slice none 0 0) ((fun _ => rfl)) ?_
 simp only [Act.put, pu]
 refine pw_value (by rfl) (.int .i64 6) (fun _ => rfl) ?_
 simp only [Act.put, pu]
 refine pw_nil ?_
 go_wp2
 go_ret2
 exact ⟨rfl, sb⟩
set_option maxRecDepth 100000 in
set_option maxHeartbeats 2000000 in
theorem put_some (v : Option Addr) (z : Nat) (s : List UInt8) (w : World) (hz : 0 < z) (hz2 : z ≤ 32) (hs : s.length ≤ 24) (h : SzAt w v z) :
  Calls Tryz.prog 9 #[.pointer v, .string ⟨(s).toArray⟩, .bool true] w fun e w' => ∃ g, e = .returned (.tuple #[.slice (some ⟨g, 0, none⟩) (pN (ckL s true).length z) (pN (ckL s true).length z), .int .i64 0]) ∧ w.heap.size ≤ g ∧ Row w' g (nsC (pN (ckL s true).length z) (ckF (ckL s true) z)) 26 ∧ Below w.heap.size w w' := by
 have hnu := fun w' (hb : Below w.heap.size w w') => numbers_any v z (ckL s true) w' hz hz2 (by have := ckL_len (v := s) true hs; omega) (h.below hb)
 obtain ⟨ie, hie, hze, hsz⟩ := info_u8k
 have hs1 : ¬ 1 * ie.size > 2 ^ 24 := by rw [hsz]; decide
 have hs2 : ¬ 1 * ie.size = 0 := by rw [hsz]; decide
 have hckL : [UInt8.ofNat (1 + s.length)] ++ s = ckL s true := by rw [Nat.add_comm]; rfl
 go_enter Tryz.func9, Tryz.ntmps9
 have sb := sbmk w
 (repeat ((fail_if_success with_reducible refine rg ?_); go_step))
 refine wp_region_pw ?_
 refine pw_value (by rfl) (.slice none 0 0) ((fun _ => rfl)) ?_
 simp only [Act.put, pu]
 refine pw_value (by rfl) (.int .i64 0) (fun _ => rfl) ?_
 simp only [Act.put, pu]
 refine pw_nil ?_
 (repeat ((fail_if_success with_reducible refine rg ?_); go_step))
 refine wp_region_pw ?_
 refine pw_mv (by rfl) rfl rfl ?_
 simp only [Act.put, pu]
 refine pw_callB (by rfl) 28 _ _ rfl Tryz.func28 (by kernel_rfl) #[.pointer v] rfl _ (isG_any v z true _ (decide_eq_true (by omega)) (h.below sb)) ?_
 intro z1001 k
 simp only [Act.put, pu]
 replace sb := sb.trans (k.below w.heap.size sb.size (by simp <;> omega))
 clear k
 refine pw_value (by rfl) (.bool false) (exec_not _ _ rfl true rfl) ?_
 simp only [Act.put, pu]
 refine pw_nil ?_
 (repeat ((fail_if_success with_reducible refine rg ?_); go_step))
 refine wp_region_pw ?_
 refine pw_mv (by rfl) rfl rfl ?_
 simp only [Act.put, pu]
 refine pw_value (by rfl) (.bool false) (exec_not _ _ rfl true rfl) ?_
 simp only [Act.put, pu]
 refine pw_nil ?_
 (repeat ((fail_if_success with_reducible refine rg ?_); go_step))
 refine wp_region_pw ?_
 refine pw_mv (by rfl) rfl rfl ?_
 simp only [Act.put, pu]
 refine pw_value (by rfl) (.int .i64 s.length) (y_lenS _ _ rfl s rfl Tryz.underlying9) ?_
 simp only [Act.put, pu]
 refine pw_value (by rfl) (.bool false) (exec_gt_i _ _ _ _ rfl s.length 24 rfl rfl false (decide_eq_false (by omega))) ?_
 simp only [Act.put, pu]
 refine pw_nil ?_
 (repeat ((fail_if_success with_reducible refine rg ?_); go_step))
 refine wp_region_pw ?_
 refine pw_mv (by rfl) rfl rfl ?_
 simp only [Act.put, pu]
 refine pw_mv (by rfl) rfl rfl ?_
 simp only [Act.put, pu]
 refine pw_value (by rfl) (.int .i64 s.length) (y_lenS _ _ rfl s rfl Tryz.underlying9) ?_
 simp only [Act.put, pu]
 refine pw_value (by rfl) (.int .i64 ((1 + s.length : Nat) : Int)) (exec_add_in _ _ _ _ rfl 1 s.length rfl rfl (by omega)) ?_
 simp only [Act.put, pu]
 refine pw_value (by rfl) (.int .u8 ((1 + s.length : Nat) : Int)) (y_conv _ _ _ rfl .i64 .u8 Tryz.underlying3 Tryz.underlying5 ((1 + s.length : Nat) : Int) _ rfl (wr8k _ (by omega))) ?_
 simp only [Act.put, pu]
 refine pw_litr (by rfl) 64 5 1 _ rfl #[.int .u8 ((1 + s.length : Nat) : Int)] ie _ Tryz.underlying64 hie hze hs1 hs2 [(0, .int .u8 ((1 + s.length : Nat) : Int))] rfl (lit_b1 _ _ hsz) ?_
 intro gB z7005 n0 rB k
 simp only [Act.put, pu]
 have bB := Nat.le_trans sb.size n0
 clear n0
 replace sb := sb.trans (k.below w.heap.size sb.size (by simp <;> omega))
 clear k
 refine pw_run (by rfl) (.string ⟨([UInt8.ofNat (1 + s.length)]).toArray⟩) _ (y_str _ rfl gB 0 1 1 [UInt8.ofNat (1 + s.length)] rfl rfl _ rB.r (cell_b1 _ (by omega))) ?_
 simp only [Act.put, pu]
 refine pw_mv (by rfl) rfl rfl ?_
 simp only [Act.put, pu]
 refine pw_value (by rfl) (.string ⟨(ckL s true).toArray⟩) (fun w' => (y_cat _ _ _ _ rfl [UInt8.ofNat (1 + s.length)] s rfl rfl (by simp; omega) w').trans (by rw [hckL])) ?_
 simp only [Act.put, pu]
 refine pw_callE (by rfl) 29 _ _ rfl Tryz.func29 (by kernel_rfl) #[.pointer v, .string ⟨(ckL s true).toArray⟩] rfl (hnu _ sb) ?_
 rintro _ z7009 ⟨g, rfl, n', r', hb⟩
 refine ⟨_, rfl, ?_⟩
 simp only [Act.put, pu]
 have dBx' := Nat.lt_of_lt_of_le rB.lt n'
 have b' := Nat.le_trans sb.size n'
 clear n'
 have k := Kept.ofBelow hb
 clear hb
 replace rB := k.row rB (by simp <;> omega)
 replace sb := sb.trans (k.below w.heap.size sb.size (by simp <;> omega))
 clear k
 refine pw_as (by rfl) rfl rfl ?_
 simp only [Act.put, pu]
 refine pw_value (by rfl) (.int .i64 0) (fun _ => rfl) ?_
 simp only [Act.put, pu]
 refine pw_nil ?_
 go_wp2
 go_ret2
 exact ⟨g, rfl, b', r', sb⟩
theorem put_ok (v : Option Addr) (z : Nat) (s : List UInt8) (b : Bool) (w : World) (hz : 0 < z) (hz2 : z ≤ 32) (hs : b = true → s.length ≤ 24) (h : SzAt w v z) :
  Calls Tryz.prog 9 #[.pointer v, .string ⟨(s).toArray⟩, .bool b] w fun e w' => ∃ g, e = .returned (.tuple #[.slice (some ⟨g, 0, none⟩) (pN (ckL s b).length z) (pN (ckL s b).length z), .int .i64 0]) ∧ w.heap.size ≤ g ∧ Row w' g (nsC (pN (ckL s b).length z) (ckF (ckL s b) z)) 26 ∧ Below w.heap.size w w' := by
 cases b with
 | false => exact put_none v z s w hz hz2 h
 | true => exact put_some v z s w hz hz2 (hs rfl) h
set_option maxRecDepth 100000 in
set_option maxHeartbeats 2000000 in
theorem ckCount_nog (v : Option Addr) (n : Int) (w : World) (h : SzAt w v 0) :
  Calls Tryz.prog 12 #[.pointer v, .int .i64 n] w fun e w' => e = .returned (.int .i64 0) ∧ Below w.heap.size w w' := by
 go_enter Tryz.func12, Tryz.ntmps12
 have sb := sbmk w
 (repeat ((fail_if_success with_reducible refine rg ?_); go_step))
 refine wp_region_pw ?_
 refine pw_value (by rfl) (.int .i64 0) (fun _ => rfl) ?_
 simp only [Act.put, pu]
 refine pw_nil ?_
 (repeat ((fail_if_success with_reducible refine rg ?_); go_step))
 refine wp_region_pw ?_
 refine pw_mv (by rfl) rfl rfl ?_
 simp only [Act.put, pu]
 refine pw_callB (by rfl) 28 _ _ rfl Tryz.func28 (by kernel_rfl) #[.pointer v] rfl _ (isG_any v 0 false _ rfl (h.below sb)) ?_
 intro z1001 k
 simp only [Act.put, pu]
 replace sb := sb.trans (k.below w.heap.size sb.size (by simp <;> omega))
 clear k
 refine pw_value (by rfl) (.bool true) (exec_not _ _ rfl false rfl) ?_
 simp only [Act.put, pu]
 refine pw_mv (by rfl) rfl rfl ?_
 simp only [Act.put, pu]
 refine pw_skip (by rfl) ?_
 simp only [Act.put, pu]
 refine pw_skip (by rfl) ?_
 simp only [Act.put, pu]
 refine pw_pick (by rfl) true (v := .bool true) rfl rfl rfl ?_
 simp only [Act.put, pu]
 refine pw_mv (by rfl) rfl rfl ?_
 simp only [Act.put, pu]
 refine pw_skip (by rfl) ?_
 simp only [Act.put, pu]
 refine pw_skip (by rfl) ?_
 simp only [Act.put, pu]
 refine pw_pick (by rfl) true (v := .bool true) rfl rfl rfl ?_
 simp only [Act.put, pu]
 refine pw_nil ?_
 (repeat ((fail_if_success with_reducible refine rg ?_); go_step))
 refine wp_region_pw ?_
 refine pw_value (by rfl) (.int .i64 0) (fun _ => rfl) ?_
 simp only [Act.put, pu]
 refine pw_nil ?_
 go_wp2
 go_ret
 exact ⟨rfl, sb⟩
set_option maxRecDepth 100000 in
set_option maxHeartbeats 2000000 in
theorem ckCount_any (v : Option Addr) (z : Nat) (n : Int) (w : World) (hz : 0 < z) (hz2 : z ≤ 32) (h : SzAt w v z) :
  Calls Tryz.prog 12 #[.pointer v, .int .i64 n] w fun e w' => e = .returned (.int .i64 (ckN z n)) ∧ Below w.heap.size w w' := by
 go_enter Tryz.func12, Tryz.ntmps12
 have sb := sbmk w
 (repeat ((fail_if_success with_reducible refine rg ?_); go_step))
 refine wp_region_pw ?_
 refine pw_value (by rfl) (.int .i64 0) (fun _ => rfl) ?_
 simp only [Act.put, pu]
 refine pw_nil ?_
 by_cases h0 : n < 0
 ·(repeat ((fail_if_success with_reducible refine rg ?_); go_step))
  refine wp_region_pw ?_
  refine pw_mv (by rfl) rfl rfl ?_
  simp only [Act.put, pu]
  refine pw_callB (by rfl) 28 _ _ rfl Tryz.func28 (by kernel_rfl) #[.pointer v] rfl _ (isG_any v z true _ (decide_eq_true (by omega)) (h.below sb)) ?_
  intro z1001 k
  simp only [Act.put, pu]
  replace sb := sb.trans (k.below w.heap.size sb.size (by simp <;> omega))
  clear k
  refine pw_value (by rfl) (.bool false) (exec_not _ _ rfl true rfl) ?_
  simp only [Act.put, pu]
  refine pw_mv (by rfl) rfl rfl ?_
  simp only [Act.put, pu]
  refine pw_mv (by rfl) rfl rfl ?_
  simp only [Act.put, pu]
  refine pw_value (by rfl) (.bool true) (exec_lt_b _ _ _ _ rfl n 0 rfl rfl true (decide_eq_true h0)) ?_
  simp only [Act.put, pu]
  refine pw_pick (by rfl) false (v := .bool true) rfl rfl rfl ?_
  simp only [Act.put, pu]
  refine pw_mv (by rfl) rfl rfl ?_
  simp only [Act.put, pu]
  refine pw_skip (by rfl) ?_
  simp only [Act.put, pu]
  refine pw_skip (by rfl) ?_
  simp only [Act.put, pu]
  refine pw_pick (by rfl) true (v := .bool true) rfl rfl rfl ?_
  simp only [Act.put, pu]
  refine pw_nil ?_
  (repeat ((fail_if_success with_reducible refine rg ?_); go_step))
  refine wp_region_pw ?_
  refine pw_value (by rfl) (.int .i64 0) (fun _ => rfl) ?_
  simp only [Act.put, pu]
  refine pw_nil ?_
  go_wp2
  go_ret
  exact ⟨by rw [show ckN z n = 0 from if_neg (by omega)]; rfl, sb⟩
 by_cases h1 : 24 < n
 ·(repeat ((fail_if_success with_reducible refine rg ?_); go_step))
  refine wp_region_pw ?_
  refine pw_mv (by rfl) rfl rfl ?_
  simp only [Act.put, pu]
  refine pw_callB (by rfl) 28 _ _ rfl Tryz.func28 (by kernel_rfl) #[.pointer v] rfl _ (isG_any v z true _ (decide_eq_true (by omega)) (h.below sb)) ?_
  intro z1001 k
  simp only [Act.put, pu]
  replace sb := sb.trans (k.below w.heap.size sb.size (by simp <;> omega))
  clear k
  refine pw_value (by rfl) (.bool false) (exec_not _ _ rfl true rfl) ?_
  simp only [Act.put, pu]
  refine pw_mv (by rfl) rfl rfl ?_
  simp only [Act.put, pu]
  refine pw_mv (by rfl) rfl rfl ?_
  simp only [Act.put, pu]
  refine pw_value (by rfl) (.bool false) (exec_lt_b _ _ _ _ rfl n 0 rfl rfl false (decide_eq_false h0)) ?_
  simp only [Act.put, pu]
  refine pw_pick (by rfl) false (v := .bool false) rfl rfl rfl ?_
  simp only [Act.put, pu]
  refine pw_mv (by rfl) rfl rfl ?_
  simp only [Act.put, pu]
  refine pw_mv (by rfl) rfl rfl ?_
  simp only [Act.put, pu]
  refine pw_value (by rfl) (.bool true) (exec_gt_i _ _ _ _ rfl n 24 rfl rfl true (decide_eq_true h1)) ?_
  simp only [Act.put, pu]
  refine pw_pick (by rfl) false (v := .bool true) rfl rfl rfl ?_
  simp only [Act.put, pu]
  refine pw_nil ?_
  (repeat ((fail_if_success with_reducible refine rg ?_); go_step))
  refine wp_region_pw ?_
  refine pw_value (by rfl) (.int .i64 0) (fun _ => rfl) ?_
  simp only [Act.put, pu]
  refine pw_nil ?_
  go_wp2
  go_ret
  exact ⟨by rw [show ckN z n = 0 from if_neg (by omega)]; rfl, sb⟩
 obtain ⟨m, rfl⟩ : ∃ m : Nat, n = m := ⟨n.toNat, by omega⟩
 have hpa := fun w' (hb : Below w.heap.size w w') => parts_any v (1 + m) z w' hz (by omega) (h.below hb)
 have hc : ckN z (m : Int) = ((pN (1 + m) z : Nat) : Int) := by
  unfold ckN
  rw [if_pos (by omega), Int.toNat_natCast, Nat.add_comm]
 ·(repeat ((fail_if_success with_reducible refine rg ?_); go_step))
  refine wp_region_pw ?_
  refine pw_mv (by rfl) rfl rfl ?_
  simp only [Act.put, pu]
  refine pw_callB (by rfl) 28 _ _ rfl Tryz.func28 (by kernel_rfl) #[.pointer v] rfl _ (isG_any v z true _ (decide_eq_true (by omega)) (h.below sb)) ?_
  intro z1001 k
  simp only [Act.put, pu]
  replace sb := sb.trans (k.below w.heap.size sb.size (by simp <;> omega))
  clear k
  refine pw_value (by rfl) (.bool false) (exec_not _ _ rfl true rfl) ?_
  simp only [Act.put, pu]
  refine pw_mv (by rfl) rfl rfl ?_
  simp only [Act.put, pu]
  refine pw_mv (by rfl) rfl rfl ?_
  simp only [Act.put, pu]
  refine pw_value (by rfl) (.bool false) (exec_lt_b _ _ _ _ rfl m 0 rfl rfl false (decide_eq_false h0)) ?_
  simp only [Act.put, pu]
  refine pw_pick (by rfl) false (v := .bool false) rfl rfl rfl ?_
  simp only [Act.put, pu]
  refine pw_mv (by rfl) rfl rfl ?_
  simp only [Act.put, pu]
  refine pw_mv (by rfl) rfl rfl ?_
  simp only [Act.put, pu]
  refine pw_value (by rfl) (.bool false) (exec_gt_i _ _ _ _ rfl m 24 rfl rfl false (decide_eq_false h1)) ?_
  simp only [Act.put, pu]
  refine pw_pick (by rfl) false (v := .bool false) rfl rfl rfl ?_
  simp only [Act.put, pu]
  refine pw_nil ?_
  (repeat ((fail_if_success with_reducible refine rg ?_); go_step))
  refine wp_region_pw ?_
  refine pw_mv (by rfl) rfl rfl ?_
  simp only [Act.put, pu]
  refine pw_mv (by rfl) rfl rfl ?_
  simp only [Act.put, pu]
  refine pw_value (by rfl) (.int .i64 ((1 + m : Nat) : Int)) (exec_add_in _ _ _ _ rfl 1 m rfl rfl (by omega)) ?_
  simp only [Act.put, pu]
  refine pw_callB (by rfl) 34 _ _ rfl Tryz.func34 (by kernel_rfl) #[.pointer v, .int .i64 ((1 + m : Nat) : Int)] rfl _ (hpa _ sb) ?_
  intro z3003 k
  simp only [Act.put, pu]
  replace sb := sb.trans (k.below w.heap.size sb.size (by simp <;> omega))
  clear k
  refine pw_as (by rfl) rfl rfl ?_
  simp only [Act.put, pu]
  refine pw_nil ?_
  go_wp2
  go_ret
  exact ⟨rfl, sb⟩
end Go.Proofs.YtdemabfpcepnfaaGreatDoor
/- chunk's joined, told, Take; slices.Equal of naturals. -/
namespace Go.Proofs.YtdemabfpcepnfaaGreatDoor
open Go.RowKit
set_option linter.unusedVariables false
theorem fill_max {z n : Nat} (hz : z ≤ 32) (hn : n ≤ 32) : (if IntKind.i64.wrap ((z : Int) - (n : Int)) > 0 then IntKind.i64.wrap ((z : Int) - (n : Int)) else 0) = ((z - n : Nat) : Int) := by
 rw [IntKind.wrap_i64]
 split <;> omega
set_option maxRecDepth 100000 in
set_option maxHeartbeats 2000000 in
theorem joined_any (v : Option Addr) (z n ca : Nat) (ab : Option Addr) (f : Nat → Nat) (gb ob : Nat) (bcs : Array Value) (tb : TypeId) (w : World) (hz2 : z ≤ 32) (hn : n ≤ 100) (h : SzAt w v z) (hna : NatsAt w ab n f gb ob bcs tb) :
  Calls Tryz.prog 36 #[.pointer v, .slice ab n ca] w fun e w' => e = .returned (.string ⟨(jn z f n).toArray⟩) ∧ Below w.heap.size w w' := by
 have HB : Hid (NatsAt w ab n f gb ob bcs tb) := hna
 have HJ : Hid (∀ k, k < n → (jn z f k).length + 64 ≤ 100000 ∧ need (f k) ≤ 32) := fun k hk => by
  have h1 : ∀ k, k ≤ n → (jn z f k).length ≤ 32 * k := by
   intro k
   induction k with
   | zero => intro _; simp [jn]
   | succ k ih =>
    intro hk
    have := flz_le hz2 (hna.lt k (by omega))
    have := ih (by omega)
    rw [jn, List.length_append]
    omega
  have := h1 k (by omega)
  exact ⟨by omega, need_le _ (hna.lt k hk)⟩
 have hlt6 := hna.lt
 clear hna
 go_enter Tryz.func36, Tryz.ntmps36
 have sb := sbmk w
 (repeat ((fail_if_success with_reducible refine rg ?_); go_step))
 refine wp_region_pw ?_
 refine pw_move (by rfl) (.inr rfl) rfl ?_
 simp only [Act.put, pu]
 refine pw_nil ?_
 (repeat ((fail_if_success with_reducible refine rg ?_); go_step))
 refine wp_region_pw ?_
 refine pw_new (by rfl) 98 rfl _ zero_buk ?_
 intro g5 z1000 n0 r5 k
 simp only [Act.put, pu]
 have b5 := Nat.le_trans sb.size n0
 clear n0
 replace sb := sb.trans (k.below w.heap.size sb.size (by simp <;> omega))
 clear k
 refine pw_nil ?_
 have hB := BuAt.fresh b5 r5
 clear r5
 (repeat ((fail_if_success with_reducible refine rg ?_); go_step))
 refine wp_region_pw ?_
 refine pw_mv (by rfl) rfl rfl ?_
 simp only [Act.put, pu]
 refine pw_value (by rfl) (.int .i64 n) (exec_len_s 34 _ rfl ab n ca rfl sl_natsX) ?_
 simp only [Act.put, pu]
 refine pw_value (by rfl) (.int .i64 0) (fun _ => rfl) ?_
 simp only [Act.put, pu]
 refine pw_nil ?_
 go_wp2_with fail
 go_loopg [6, 7, 10] n (fun g s6 s7 s10 wr => ∃ k : Nat, k + g = n ∧ s10 = .int .i64 k ∧ BuAt wr w.heap.size g5 (jn z f k) ∧ Below w.heap.size w wr)
 case atStart => exact ⟨0, by omega, rfl, hB, sb⟩
 case round =>
  clear hB sb
  obtain ⟨k, hk, rfl, hB, sb⟩ := hrel
  cases gk with
  | zero =>
   obtain rfl : k = n := by omega
   clear hk HB HJ hlt6
   (repeat ((fail_if_success with_reducible refine rg ?_); go_step))
   refine wp_region_pw ?_
   refine pw_value (by rfl) (.bool false) (exec_lt_b _ _ _ _ rfl k k rfl rfl false (decide_eq_false (Int.lt_irrefl _))) ?_
   simp only [Act.put, pu]
   refine pw_nil ?_
   (repeat ((fail_if_success with_reducible refine rg ?_); go_step))
   refine wp_region_pw ?_
   refine pw_callE (by rfl) 59 _ _ rfl Tryz.func59 (by kernel_rfl) #[.pointer (some ⟨g5, 0, none⟩)] rfl (bstr_any w.heap.size g5 _ _ hB sb.size) ?_
   rintro _ z9000 ⟨rfl, hb⟩
   refine ⟨_, rfl, ?_⟩
   simp only [Act.put, pu]
   replace sb := sb.trans hb
   clear hb
   refine pw_as (by rfl) rfl rfl ?_
   simp only [Act.put, pu]
   refine pw_nil ?_
   go_wp2
   go_ret
   exact ⟨rfl, sb⟩
  | succ g =>
   have hlt : k < n := by omega
   obtain ⟨hj1, hj2⟩ := HJ.out k hlt
   have hfk := hlt6 k hlt
   have hby := fun w' => nbytes_any (f k) w' hfk
   rw [show bytesOf (f k) = ⟨(bytesL (f k) (need (f k))).toArray⟩ from rfl] at hby
   have hbl := bytesL_length (f k) (need (f k))
   have hmx := fill_max hz2 hj2
   have hjn : jn z f k ++ List.replicate (z - need (f k)) 0 ++ bytesL (f k) (need (f k)) = jn z f (k + 1) := by
    rw [jn, flz, List.append_assoc]
   generalize bytesL (f k) (need (f k)) = L at *
   generalize need (f k) = N at *
   obtain h0 | ⟨rfl, rB, hbt⟩ := (HB.out.below sb).at'
   ·exact absurd h0 (by omega)
   have hbt' := hbt k hlt
   clear hbt
   (repeat ((fail_if_success with_reducible refine rg ?_); go_step))
   refine wp_region_pw ?_
   refine pw_value (by rfl) (.bool true) (exec_lt_b _ _ _ _ rfl k n rfl rfl true (decide_eq_true (by omega))) ?_
   simp only [Act.put, pu]
   refine pw_nil ?_
   (repeat ((fail_if_success with_reducible refine rg ?_); go_step))
   refine wp_region_pw ?_
   refine pw_mv (by rfl) rfl rfl ?_
   simp only [Act.put, pu]
   refine pw_as (by rfl) rfl rfl ?_
   simp only [Act.put, pu]
   refine pw_nil ?_
   (repeat ((fail_if_success with_reducible refine rg ?_); go_step))
   refine wp_region_pw ?_
   refine pw_mv (by rfl) rfl rfl ?_
   simp only [Act.put, pu]
   refine pw_mv (by rfl) rfl rfl ?_
   simp only [Act.put, pu]
   refine pw_value (by rfl) (.pointer (some ⟨gb, ob + k * 4, none⟩)) (exec_index_s 34 _ _ rfl gb ob n ca rfl k rfl hlt _ Tryz.underlying34 4 size_nat4) ?_
   simp only [Act.put, pu]
   refine pw_loadm (by rfl) 26 _ rfl _ (ob + k * 4) rfl rB (natC (f k)) hbt' _ Tryz.underlying26 rfl size_nat ?_
   simp only [Act.put, pu]
   refine pw_callB (by rfl) 57 _ _ rfl Tryz.func57 (by kernel_rfl) #[.agg (natC (f k))] rfl _ (hby _) ?_
   intro z5004 k
   simp only [Act.put, pu]
   replace hB := hB.below k.nil
   replace sb := sb.trans (k.below w.heap.size sb.size (by simp <;> omega))
   clear k
   refine pw_as (by rfl) rfl rfl ?_
   simp only [Act.put, pu]
   refine pw_nil ?_
   clear rB hbt' hby
   (repeat ((fail_if_success with_reducible refine rg ?_); go_step))
   refine wp_region_pw ?_
   refine pw_mv (by rfl) rfl rfl ?_
   simp only [Act.put, pu]
   refine pw_callB (by rfl) 52 _ _ rfl Tryz.func52 (by kernel_rfl) #[.pointer v] rfl _ (h _ sb) ?_
   intro z6001 k
   simp only [Act.put, pu]
   replace hB := hB.below k.nil
   replace sb := sb.trans (k.below w.heap.size sb.size (by simp <;> omega))
   clear k
   refine pw_mv (by rfl) rfl rfl ?_
   simp only [Act.put, pu]
   refine pw_value (by rfl) (.int .i64 N) (fun w' => (y_lenS _ _ rfl L rfl Tryz.underlying9 w').trans (by rw [hbl])) ?_
   simp only [Act.put, pu]
   refine pw_value (by rfl) (.int .i64 (IntKind.i64.wrap ((z : Int) - (N : Int)))) (y_subI _ _ _ _ rfl z N _ rfl rfl rfl) ?_
   simp only [Act.put, pu]
   refine pw_value (by rfl) (.int .i64 ((z - N : Nat) : Int)) (y_max _ _ _ rfl 0 _ _ rfl rfl hmx) ?_
   simp only [Act.put, pu]
   refine pw_callB (by rfl) 53 _ _ rfl Tryz.func53 (by kernel_rfl) #[.string { data := #[0] }, .int .i64 ((z - N : Nat) : Int)] rfl _ (repeat_any _ _ (by omega)) ?_
   intro z6006 k
   simp only [Act.put, pu]
   replace hB := hB.below k.nil
   replace sb := sb.trans (k.below w.heap.size sb.size (by simp <;> omega))
   clear k
   refine pw_callE (by rfl) 58 _ _ rfl Tryz.func58 (by kernel_rfl) #[.pointer (some ⟨g5, 0, none⟩), .string ⟨(List.replicate (z - N) 0).toArray⟩] rfl (wstr_any w.heap.size g5 _ _ _ hB (by rw [List.length_replicate]; omega) sb.size) ?_
   clear hB
   rintro _ z6007 ⟨rfl, hB, hb⟩
   refine ⟨_, rfl, ?_⟩
   simp only [Act.put, pu]
   replace sb := sb.trans hb
   clear hb
   refine pw_nil ?_
   (repeat ((fail_if_success with_reducible refine rg ?_); go_step))
   refine wp_region_pw ?_
   refine pw_mv (by rfl) rfl rfl ?_
   simp only [Act.put, pu]
   refine pw_callE (by rfl) 58 _ _ rfl Tryz.func58 (by kernel_rfl) #[.pointer (some ⟨g5, 0, none⟩), .string ⟨(L).toArray⟩] rfl (wstr_any w.heap.size g5 _ _ _ hB (by rw [List.length_append, List.length_replicate, hbl]; omega) sb.size) ?_
   clear hB
   rintro _ z7001 ⟨rfl, hB, hb⟩
   refine ⟨_, rfl, ?_⟩
   simp only [Act.put, pu]
   replace sb := sb.trans hb
   clear hb
   refine pw_nil ?_
   rw [hjn] at hB
   (repeat ((fail_if_success with_reducible refine rg ?_); go_step))
   refine wp_region_pw ?_
   refine pw_value (by rfl) (.int .i64 ((k + 1 : Nat) : Int)) (exec_add_in _ _ _ _ rfl k 1 rfl rfl (by omega)) ?_
   simp only [Act.put, pu]
   refine pw_mv (by rfl) rfl rfl ?_
   simp only [Act.put, pu]
   refine pw_nil ?_
   go_wp2
   go_roundg g
   case measure => omega
   case rel => exact ⟨k + 1, by omega, rfl, hB, sb⟩
set_option maxRecDepth 100000 in
set_option maxHeartbeats 2000000 in
theorem told_no (s : List UInt8) (w : World) (hs : 0 < s.length) (hd : decide ((yb s 0 : Int) = 0) = true) :
  Calls Tryz.prog 35 #[.string ⟨(s).toArray⟩] w fun e w' => e = .returned (.tuple #[.string ⟨([] : List UInt8).toArray⟩, .bool false]) ∧ Below w.heap.size w w' := by
 go_enter Tryz.func35, Tryz.ntmps35
 have sb := sbmk w
 (repeat ((fail_if_success with_reducible refine rg ?_); go_step))
 refine wp_region_pw ?_
 refine pw_move (by rfl) (.inr rfl) rfl ?_
 simp only [Act.put, pu]
 refine pw_value (by rfl) (.bool false) (fun _ => rfl) ?_
 simp only [Act.put, pu]
 refine pw_nil ?_
 (repeat ((fail_if_success with_reducible refine rg ?_); go_step))
 refine wp_region_pw ?_
 refine pw_mv (by rfl) rfl rfl ?_
 simp only [Act.put, pu]
 refine pw_value (by rfl) (.int .u8 (yb s 0 : Nat)) (y_index _ _ _ rfl Tryz.underlying9 s rfl .i64 0 rfl hs) ?_
 simp only [Act.put, pu]
 refine pw_value (by rfl) (.bool true) (exec_eql_k .u8 _ _ _ _ rfl (yb s 0 : Nat) 0 rfl rfl true hd) ?_
 simp only [Act.put, pu]
 refine pw_nil ?_
 (repeat ((fail_if_success with_reducible refine rg ?_); go_step))
 refine wp_region_pw ?_
 refine pw_move (by rfl) (.inr rfl) rfl ?_
 simp only [Act.put, pu]
 refine pw_value (by rfl) (.bool false) (fun _ => rfl) ?_
 simp only [Act.put, pu]
 refine pw_nil ?_
 go_wp2
 go_ret2
 exact ⟨rfl, sb⟩
set_option maxRecDepth 100000 in
set_option maxHeartbeats 2000000 in
theorem told_yes (s V : List UInt8) (Y : Nat) (w : World) (hY : yb s 0 = Y) (hs : 0 < s.length) (hs2 : s.length ≤ 100000) (hd : decide ((Y : Int) = 0) = false) (hy : Y < 256) (hy0 : ¬ Y = 0) (hV : (s.take (min Y s.length)).drop 1 = V) :
  Calls Tryz.prog 35 #[.string ⟨(s).toArray⟩] w fun e w' => e = .returned (.tuple #[.string ⟨(V).toArray⟩, .bool true]) ∧ Below w.heap.size w w' := by
 go_enter Tryz.func35, Tryz.ntmps35
 have sb := sbmk w
 (repeat ((fail_if_success with_reducible refine rg ?_); go_step))
 refine wp_region_pw ?_
 refine pw_move (by rfl) (.inr rfl) rfl ?_
 simp only [Act.put, pu]
 refine pw_value (by rfl) (.bool false) (fun _ => rfl) ?_
 simp only [Act.put, pu]
 refine pw_nil ?_
 (repeat ((fail_if_success with_reducible refine rg ?_); go_step))
 refine wp_region_pw ?_
 refine pw_mv (by rfl) rfl rfl ?_
 simp only [Act.put, pu]
 refine pw_value (by rfl) (.int .u8 (Y : Nat)) (fun w' => (y_index _ _ _ rfl Tryz.underlying9 s rfl .i64 0 rfl hs w').trans (by rw [hY])) ?_
 simp only [Act.put, pu]
 refine pw_value (by rfl) (.bool false) (exec_eql_k .u8 _ _ _ _ rfl (Y : Nat) 0 rfl rfl false hd) ?_
 simp only [Act.put, pu]
 refine pw_nil ?_
 (repeat ((fail_if_success with_reducible refine rg ?_); go_step))
 refine wp_region_pw ?_
 refine pw_mv (by rfl) rfl rfl ?_
 simp only [Act.put, pu]
 refine pw_mv (by rfl) rfl rfl ?_
 simp only [Act.put, pu]
 refine pw_value (by rfl) (.int .u8 (Y : Nat)) (fun w' => (y_index _ _ _ rfl Tryz.underlying9 s rfl .i64 0 rfl hs w').trans (by rw [hY])) ?_
 simp only [Act.put, pu]
 refine pw_value (by rfl) (.int .i64 (Y : Nat)) (y_conv _ _ _ rfl .u8 .i64 Tryz.underlying5 Tryz.underlying3 (Y : Nat) _ rfl (by rw [IntKind.wrap_i64]; omega)) ?_
 simp only [Act.put, pu]
 refine pw_mv (by rfl) rfl rfl ?_
 simp only [Act.put, pu]
 refine pw_value (by rfl) (.int .i64 s.length) (y_lenS _ _ rfl s rfl Tryz.underlying9) ?_
 simp only [Act.put, pu]
 refine pw_value (by rfl) (.int .i64 ((min Y s.length : Nat) : Int)) (y_min _ _ _ rfl Y s.length _ rfl rfl rfl) ?_
 simp only [Act.put, pu]
 refine pw_value (by rfl) (.string ⟨(V).toArray⟩) (y_mid _ _ _ _ Tryz.underlying9 rfl s 1 (min Y s.length) rfl rfl rfl (by omega) (by omega) _ hV) ?_
 simp only [Act.put, pu]
 refine pw_as (by rfl) rfl rfl ?_
 simp only [Act.put, pu]
 refine pw_value (by rfl) (.bool true) (fun _ => rfl) ?_
 simp only [Act.put, pu]
 refine pw_nil ?_
 go_wp2
 go_ret2
 exact ⟨rfl, sb⟩
theorem td_no {s : List UInt8} (h0 : yb s 0 = 0) : tdT s = false := by
 unfold tdT
 rw [show (s.getD 0 0).toNat = yb s 0 from rfl, h0]
 rfl
theorem td_yes {s : List UInt8} (h0 : ¬ yb s 0 = 0) : tdT s = true ∧ (s.take (min (yb s 0) s.length)).drop 1 = tdV s := by
 have hT : tdT s = true := by
  unfold tdT
  rw [show (s.getD 0 0).toNat = yb s 0 from rfl, decide_eq_false h0]
  rfl
 refine ⟨hT, ?_⟩
 unfold tdV
 rw [hT]
 rfl
theorem told_any (s : List UInt8) (w : World) (hs : 0 < s.length) (hs2 : s.length ≤ 100000) :
  Calls Tryz.prog 35 #[.string ⟨(s).toArray⟩] w fun e w' => e = .returned (.tuple #[.string ⟨(tdV s).toArray⟩, .bool (tdT s)]) ∧ Below w.heap.size w w' := by
 by_cases h0 : yb s 0 = 0
 ·rw [tdV_no (td_no h0), td_no h0]
  exact told_no s w hs (decide_eq_true (by omega))
 ·obtain ⟨hT, hV⟩ := td_yes h0
  rw [hT]
  exact told_yes s _ (yb s 0) w rfl hs hs2 (decide_eq_false (by omega)) (yb_lt s 0) h0 hV
set_option maxRecDepth 100000 in
set_option maxHeartbeats 2000000 in
theorem equal_len (n m ca ce : Nat) (ab ae : Option Addr) (w : World) (hnm : n ≠ m) :
  Calls Tryz.prog 37 #[.slice ab n ca, .slice ae m ce] w fun e w' => e = .returned (.bool false) ∧ Below w.heap.size w w' := by
 go_enter Tryz.func37, Tryz.ntmps37
 have sb := sbmk w
 (repeat ((fail_if_success with_reducible refine rg ?_); go_step))
 refine wp_region_pw ?_
 refine pw_value (by rfl) (.bool false) (fun _ => rfl) ?_
 simp only [Act.put, pu]
 refine pw_nil ?_
 (repeat ((fail_if_success with_reducible refine rg ?_); go_step))
 refine wp_region_pw ?_
 refine pw_mv (by rfl) rfl rfl ?_
 simp only [Act.put, pu]
 refine pw_value (by rfl) (.int .i64 n) (exec_len_s 34 _ rfl ab n ca rfl sl_natsX) ?_
 simp only [Act.put, pu]
 refine pw_mv (by rfl) rfl rfl ?_
 simp only [Act.put, pu]
 refine pw_value (by rfl) (.int .i64 m) (exec_len_s 34 _ rfl ae m ce rfl sl_natsX) ?_
 simp only [Act.put, pu]
 refine pw_value (by rfl) (.bool true) (exec_neq_k .i64 _ _ _ _ rfl n m rfl rfl true (by rw [decide_eq_false (by omega)]; rfl)) ?_
 simp only [Act.put, pu]
 refine pw_nil ?_
 (repeat ((fail_if_success with_reducible refine rg ?_); go_step))
 refine wp_region_pw ?_
 refine pw_value (by rfl) (.bool false) (fun _ => rfl) ?_
 simp only [Act.put, pu]
 refine pw_nil ?_
 go_wp2
 go_ret
 exact ⟨rfl, sb⟩
set_option maxRecDepth 100000 in
set_option maxHeartbeats 2000000 in
theorem equal_any (n : Nat) (ca ce : Nat) (ab ae : Option Addr) (f h : Nat → Nat) (gb ob ge oe : Nat) (bcs ecs : Array Value) (tb te : TypeId) (w : World) (B : Bool) (hB : B = true ↔ ∀ k, k < n → f k = h k) (hn : n < 9223372036854775808) (hna : NatsAt w ab n f gb ob bcs tb) (hnb : NatsAt w ae n h ge oe ecs te) :
  Calls Tryz.prog 37 #[.slice ab n ca, .slice ae n ce] w fun e w' => e = .returned (.bool B) ∧ Below w.heap.size w w' := by
 have HB : Hid (NatsAt w ab n f gb ob bcs tb) := hna
 have HE : Hid (NatsAt w ae n h ge oe ecs te) := hnb
 have HQ : Hid (B = true ↔ ∀ k, k < n → f k = h k) := hB
 clear hna hnb hB
 go_enter Tryz.func37, Tryz.ntmps37
 have sb := sbmk w
 (repeat ((fail_if_success with_reducible refine rg ?_); go_step))
 refine wp_region_pw ?_
 refine pw_value (by rfl) (.bool false) (fun _ => rfl) ?_
 simp only [Act.put, pu]
 refine pw_nil ?_
 (repeat ((fail_if_success with_reducible refine rg ?_); go_step))
 refine wp_region_pw ?_
 refine pw_mv (by rfl) rfl rfl ?_
 simp only [Act.put, pu]
 refine pw_value (by rfl) (.int .i64 n) (exec_len_s 34 _ rfl ab n ca rfl sl_natsX) ?_
 simp only [Act.put, pu]
 refine pw_mv (by rfl) rfl rfl ?_
 simp only [Act.put, pu]
 refine pw_value (by rfl) (.int .i64 n) (exec_len_s 34 _ rfl ae n ce rfl sl_natsX) ?_
 simp only [Act.put, pu]
 refine pw_value (by rfl) (.bool false) (exec_neq_k .i64 _ _ _ _ rfl n n rfl rfl false (by rw [decide_eq_true rfl]; rfl)) ?_
 simp only [Act.put, pu]
 refine pw_nil ?_
 (repeat ((fail_if_success with_reducible refine rg ?_); go_step))
 refine wp_region_pw ?_
 refine pw_mv (by rfl) rfl rfl ?_
 simp only [Act.put, pu]
 refine pw_value (by rfl) (.int .i64 n) (exec_len_s 34 _ rfl ab n ca rfl sl_natsX) ?_
 simp only [Act.put, pu]
 refine pw_value (by rfl) (.int .i64 0) (fun _ => rfl) ?_
 simp only [Act.put, pu]
 refine pw_nil ?_
 go_wp2_with fail
 go_loopg [5, 13] n (fun g s5 s13 wr => ∃ i : Nat, i + g = n ∧ s13 = .int .i64 i ∧ Hid (∀ k, k < i → f k = h k) ∧ Below w.heap.size w wr)
 case atStart => exact ⟨0, by omega, rfl, (show ∀ k, k < 0 → f k = h k from fun k hk => by omega), sb⟩
 case round =>
  clear sb
  obtain ⟨i, hi, rfl, HP, sb⟩ := hrel
  cases gk with
  | zero =>
   obtain rfl : i = n := by omega
   obtain rfl : B = true := HQ.out.2 HP.out
   clear hi
   (repeat ((fail_if_success with_reducible refine rg ?_); go_step))
   refine wp_region_pw ?_
   refine pw_value (by rfl) (.bool false) (exec_lt_b _ _ _ _ rfl i i rfl rfl false (decide_eq_false (Int.lt_irrefl _))) ?_
   simp only [Act.put, pu]
   refine pw_nil ?_
   (repeat ((fail_if_success with_reducible refine rg ?_); go_step))
   refine wp_region_pw ?_
   refine pw_value (by rfl) (.bool true) (fun _ => rfl) ?_
   simp only [Act.put, pu]
   refine pw_nil ?_
   go_wp2
   go_ret
   exact ⟨rfl, sb⟩
  | succ g =>
   have hlt : i < n := by omega
   (repeat ((fail_if_success with_reducible refine rg ?_); go_step))
   refine wp_region_pw ?_
   refine pw_value (by rfl) (.bool true) (exec_lt_b _ _ _ _ rfl i n rfl rfl true (decide_eq_true (by omega))) ?_
   simp only [Act.put, pu]
   refine pw_nil ?_
   (repeat ((fail_if_success with_reducible refine rg ?_); go_step))
   refine wp_region_pw ?_
   refine pw_mv (by rfl) rfl rfl ?_
   simp only [Act.put, pu]
   refine pw_as (by rfl) rfl rfl ?_
   simp only [Act.put, pu]
   refine pw_nil ?_
   by_cases he : f i = h i
   ·have HP2 : Hid (∀ k, k < i + 1 → f k = h k) := fun k hk => by
     by_cases hki : k = i
     ·subst hki; exact he
     ·exact HP.out k (by omega)
    clear HP
    obtain h0 | ⟨rfl, rB, hbt⟩ := (HB.out.below sb).at'
    ·exact absurd h0 (by omega)
    obtain h0 | ⟨rfl, rE, het⟩ := (HE.out.below sb).at'
    ·exact absurd h0 (by omega)
    have hbt' := hbt i hlt
    have het' := het i hlt
    clear hbt het
    (repeat ((fail_if_success with_reducible refine rg ?_); go_step))
    refine wp_region_qw (by kernel_rfl) (by kernel_rfl) ?_
    refine qw_move (by rfl) rfl rfl ?_
    simp only [Act.put, pu]
    refine qw_move (by rfl) rfl rfl ?_
    simp only [Act.put, pu]
    refine qw_value (by rfl) (.pointer (some ⟨gb, ob + i * 4, none⟩)) ((exec_index_s 34 _ _ rfl gb ob n ca rfl i rfl hlt _ Tryz.underlying34 4 size_nat4)) ?_
    simp only [Act.put, pu]
    refine qw_loadmR (by rfl) 26 _ rfl _ (ob + i * 4) rfl rB (natC (f i)) hbt' _ Tryz.underlying26 rfl size_nat ?_
    simp only [Act.put, pu]
    refine qw_move (by rfl) rfl rfl ?_
    simp only [Act.put, pu]
    refine qw_move (by rfl) rfl rfl ?_
    simp only [Act.put, pu]
    refine qw_value (by rfl) (.pointer (some ⟨ge, oe + i * 4, none⟩)) ((exec_index_s 34 _ _ rfl ge oe n ce rfl i rfl hlt _ Tryz.underlying34 4 size_nat4)) ?_
    simp only [Act.put, pu]
    refine qw_loadmR (by rfl) 26 _ rfl _ (oe + i * 4) rfl rE (natC (h i)) het' _ Tryz.underlying26 rfl size_nat ?_
    simp only [Act.put, pu]
    refine qw_value (by rfl) (.bool false) ((fun w' => (exec_neq_nat _ _ _ rfl (f i) (h i) rfl rfl w').trans (by rw [he, neq_no]))) ?_
    simp only [Act.put, pu]
    refine qw_nil ?_
    intro w6 hqb
    replace sb := below_on sb (Nat.le_refl _) hqb
    clear hqb
    clear rB rE hbt' het'
    (repeat ((fail_if_success with_reducible refine rg ?_); go_step))
    refine wp_region_pw ?_
    refine pw_value (by rfl) (.int .i64 ((i + 1 : Nat) : Int)) (exec_add_in _ _ _ _ rfl i 1 rfl rfl (by omega)) ?_
    simp only [Act.put, pu]
    refine pw_mv (by rfl) rfl rfl ?_
    simp only [Act.put, pu]
    refine pw_nil ?_
    go_wp2
    go_roundg g
    case measure => omega
    case rel => exact ⟨i + 1, by omega, rfl, HP2, sb⟩
   ·obtain rfl : B = false := by
     cases B with
     | false => rfl
     | true => exact absurd (HQ.out.1 rfl i hlt) he
    have hf1 := HB.out.lt i hlt
    have hf2 := HE.out.lt i hlt
    obtain h0 | ⟨rfl, rB, hbt⟩ := (HB.out.below sb).at'
    ·exact absurd h0 (by omega)
    obtain h0 | ⟨rfl, rE, het⟩ := (HE.out.below sb).at'
    ·exact absurd h0 (by omega)
    have hbt' := hbt i hlt
    have het' := het i hlt
    clear hbt het
    (repeat ((fail_if_success with_reducible refine rg ?_); go_step))
    refine wp_region_qw (by kernel_rfl) (by kernel_rfl) ?_
    refine qw_move (by rfl) rfl rfl ?_
    simp only [Act.put, pu]
    refine qw_move (by rfl) rfl rfl ?_
    simp only [Act.put, pu]
    refine qw_value (by rfl) (.pointer (some ⟨gb, ob + i * 4, none⟩)) ((exec_index_s 34 _ _ rfl gb ob n ca rfl i rfl hlt _ Tryz.underlying34 4 size_nat4)) ?_
    simp only [Act.put, pu]
    refine qw_loadmR (by rfl) 26 _ rfl _ (ob + i * 4) rfl rB (natC (f i)) hbt' _ Tryz.underlying26 rfl size_nat ?_
    simp only [Act.put, pu]
    refine qw_move (by rfl) rfl rfl ?_
    simp only [Act.put, pu]
    refine qw_move (by rfl) rfl rfl ?_
    simp only [Act.put, pu]
    refine qw_value (by rfl) (.pointer (some ⟨ge, oe + i * 4, none⟩)) ((exec_index_s 34 _ _ rfl ge oe n ce rfl i rfl hlt _ Tryz.underlying34 4 size_nat4)) ?_
    simp only [Act.put, pu]
    refine qw_loadmR (by rfl) 26 _ rfl _ (oe + i * 4) rfl rE (natC (h i)) het' _ Tryz.underlying26 rfl size_nat ?_
    simp only [Act.put, pu]
    refine qw_value (by rfl) (.bool true) ((fun w' => (exec_neq_nat _ _ _ rfl (f i) (h i) rfl rfl w').trans (by rw [neq_yes _ _ hf1 hf2 he]))) ?_
    simp only [Act.put, pu]
    refine qw_nil ?_
    intro w6 hqb
    replace sb := below_on sb (Nat.le_refl _) hqb
    clear hqb
    clear rB rE hbt' het'
    (repeat ((fail_if_success with_reducible refine rg ?_); go_step))
    refine wp_region_pw ?_
    refine pw_value (by rfl) (.bool false) (fun _ => rfl) ?_
    simp only [Act.put, pu]
    refine pw_nil ?_
    go_wp2
    go_ret
    exact ⟨rfl, sb⟩
set_option maxRecDepth 100000 in
set_option maxHeartbeats 2000000 in
theorem take_nog (v : Option Addr) (n ca : Nat) (ab : Option Addr) (w : World) (h : SzAt w v 0) :
  Calls Tryz.prog 14 #[.pointer v, .slice ab n ca] w fun e w' => e = .returned (.tuple #[.string ⟨([] : List UInt8).toArray⟩, .bool false, .int .i64 1]) ∧ Below w.heap.size w w' := by
 go_enter Tryz.func14, Tryz.ntmps14
 have sb := sbmk w
 (repeat ((fail_if_success with_reducible refine rg ?_); go_step))
 refine wp_region_pw ?_
 refine pw_move (by rfl) (.inr rfl) rfl ?_
 simp only [Act.put, pu]
 refine pw_value (by rfl) (.bool false) (fun _ => rfl) ?_
 simp only [Act.put, pu]
 refine pw_value (by rfl) (.int .i64 0) (fun _ => rfl) ?_
 simp only [Act.put, pu]
 refine pw_nil ?_
 (repeat ((fail_if_success with_reducible refine rg ?_); go_step))
 refine wp_region_pw ?_
 refine pw_mv (by rfl) rfl rfl ?_
 simp only [Act.put, pu]
 refine pw_callB (by rfl) 28 _ _ rfl Tryz.func28 (by kernel_rfl) #[.pointer v] rfl _ (isG_any v 0 false _ rfl (h.below sb)) ?_
 intro z1001 k
 simp only [Act.put, pu]
 replace sb := sb.trans (k.below w.heap.size sb.size (by simp <;> omega))
 clear k
 refine pw_value (by rfl) (.bool true) (exec_not _ _ rfl false rfl) ?_
 simp only [Act.put, pu]
 refine pw_nil ?_
 (repeat ((fail_if_success with_reducible refine rg ?_); go_step))
 refine wp_region_pw ?_
 refine pw_move (by rfl) (.inr rfl) rfl ?_
 simp only [Act.put, pu]
 refine pw_value (by rfl) (.bool false) (fun _ => rfl) ?_
 simp only [Act.put, pu]
 refine pw_value (by rfl) (.int .i64 1) (fun _ => rfl) ?_
 simp only [Act.put, pu]
 refine pw_nil ?_
 go_wp2
 go_ret3
 exact ⟨rfl, sb⟩
set_option maxRecDepth 100000 in
set_option maxHeartbeats 2000000 in
theorem take_few (v : Option Addr) (z n ca : Nat) (ab : Option Addr) (w : World) (hz : 0 < z) (hn : n = 0 ∨ 25 < n) (h : SzAt w v z) :
  Calls Tryz.prog 14 #[.pointer v, .slice ab n ca] w fun e w' => e = .returned (.tuple #[.string ⟨([] : List UInt8).toArray⟩, .bool false, .int .i64 4]) ∧ Below w.heap.size w w' := by
 go_enter Tryz.func14, Tryz.ntmps14
 have sb := sbmk w
 (repeat ((fail_if_success with_reducible refine rg ?_); go_step))
 refine wp_region_pw ?_
 refine pw_move (by rfl) (.inr rfl) rfl ?_
 simp only [Act.put, pu]
 refine pw_value (by rfl) (.bool false) (fun _ => rfl) ?_
 simp only [Act.put, pu]
 refine pw_value (by rfl) (.int .i64 0) (fun _ => rfl) ?_
 simp only [Act.put, pu]
 refine pw_nil ?_
 (repeat ((fail_if_success with_reducible refine rg ?_); go_step))
 refine wp_region_pw ?_
 refine pw_mv (by rfl) rfl rfl ?_
 simp only [Act.put, pu]
 refine pw_callB (by rfl) 28 _ _ rfl Tryz.func28 (by kernel_rfl) #[.pointer v] rfl _ (isG_any v z true _ (decide_eq_true (by omega)) (h.below sb)) ?_
 intro z1001 k
 simp only [Act.put, pu]
 replace sb := sb.trans (k.below w.heap.size sb.size (by simp <;> omega))
 clear k
 refine pw_value (by rfl) (.bool false) (exec_not _ _ rfl true rfl) ?_
 simp only [Act.put, pu]
 refine pw_nil ?_
 by_cases h0 : n = 0
 ·clear hn
  (repeat ((fail_if_success with_reducible refine rg ?_); go_step))
  refine wp_region_pw ?_
  refine pw_mv (by rfl) rfl rfl ?_
  simp only [Act.put, pu]
  refine pw_value (by rfl) (.int .i64 n) (exec_len_s 34 _ rfl ab n ca rfl sl_natsX) ?_
  simp only [Act.put, pu]
  refine pw_value (by rfl) (.bool true) (exec_eql_k .i64 _ _ _ _ rfl n 0 rfl rfl true (decide_eq_true (by omega))) ?_
  simp only [Act.put, pu]
  refine pw_mv (by rfl) rfl rfl ?_
  simp only [Act.put, pu]
  refine pw_skip (by rfl) ?_
  simp only [Act.put, pu]
  refine pw_skip (by rfl) ?_
  simp only [Act.put, pu]
  refine pw_skip (by rfl) ?_
  simp only [Act.put, pu]
  refine pw_pick (by rfl) true (v := .bool true) rfl rfl rfl ?_
  simp only [Act.put, pu]
  refine pw_nil ?_
  (repeat ((fail_if_success with_reducible refine rg ?_); go_step))
  refine wp_region_pw ?_
  refine pw_move (by rfl) (.inr rfl) rfl ?_
  simp only [Act.put, pu]
  refine pw_value (by rfl) (.bool false) (fun _ => rfl) ?_
  simp only [Act.put, pu]
  refine pw_value (by rfl) (.int .i64 4) (fun _ => rfl) ?_
  simp only [Act.put, pu]
  refine pw_nil ?_
  go_wp2
  go_ret3
  exact ⟨rfl, sb⟩
 ·have h25 : 25 < n := hn.resolve_left h0
  clear hn
  (repeat ((fail_if_success with_reducible refine rg ?_); go_step))
  refine wp_region_pw ?_
  refine pw_mv (by rfl) rfl rfl ?_
  simp only [Act.put, pu]
  refine pw_value (by rfl) (.int .i64 n) (exec_len_s 34 _ rfl ab n ca rfl sl_natsX) ?_
  simp only [Act.put, pu]
  refine pw_value (by rfl) (.bool false) (exec_eql_k .i64 _ _ _ _ rfl n 0 rfl rfl false (decide_eq_false (by omega))) ?_
  simp only [Act.put, pu]
  refine pw_mv (by rfl) rfl rfl ?_
  simp only [Act.put, pu]
  refine pw_mv (by rfl) rfl rfl ?_
  simp only [Act.put, pu]
  refine pw_value (by rfl) (.int .i64 n) (exec_len_s 34 _ rfl ab n ca rfl sl_natsX) ?_
  simp only [Act.put, pu]
  refine pw_value (by rfl) (.bool true) (exec_gt_i _ _ _ _ rfl n 25 rfl rfl true (decide_eq_true (by omega))) ?_
  simp only [Act.put, pu]
  refine pw_pick (by rfl) false (v := .bool true) rfl rfl rfl ?_
  simp only [Act.put, pu]
  refine pw_nil ?_
  (repeat ((fail_if_success with_reducible refine rg ?_); go_step))
  refine wp_region_pw ?_
  refine pw_move (by rfl) (.inr rfl) rfl ?_
  simp only [Act.put, pu]
  refine pw_value (by rfl) (.bool false) (fun _ => rfl) ?_
  simp only [Act.put, pu]
  refine pw_value (by rfl) (.int .i64 4) (fun _ => rfl) ?_
  simp only [Act.put, pu]
  refine pw_nil ?_
  go_wp2
  go_ret3
  exact ⟨rfl, sb⟩
set_option maxRecDepth 100000 in
set_option maxHeartbeats 2000000 in
theorem take_big (v : Option Addr) (z n ca : Nat) (ab : Option Addr) (J V : List UInt8) (B : Bool) (w : World) (hz : 0 < z) (hn0 : ¬ n = 0) (hn : ¬ 25 < n) (h : SzAt w v z)
  (hjo : ∀ w', Below w.heap.size w w' → Calls Tryz.prog 36 #[.pointer v, .slice ab n ca] w' fun e w2 => e = .returned (.string ⟨(J).toArray⟩) ∧ Below w'.heap.size w' w2)
  (hto : ∀ w', Calls Tryz.prog 35 #[.string ⟨(J).toArray⟩] w' fun e w2 => e = .returned (.tuple #[.string ⟨(V).toArray⟩, .bool B]) ∧ Below w'.heap.size w' w2)
  (hpu : ∀ w', Below w.heap.size w w' → Calls Tryz.prog 9 #[.pointer v, .string ⟨(V).toArray⟩, .bool B] w' fun e w2 => e = .returned (.tuple #[.slice none 0 0, .int .i64 6]) ∧ Below w'.heap.size w' w2) :
  Calls Tryz.prog 14 #[.pointer v, .slice ab n ca] w fun e w' => e = .returned (.tuple #[.string ⟨([] : List UInt8).toArray⟩, .bool false, .int .i64 4]) ∧ Below w.heap.size w w' := by
 go_enter Tryz.func14, Tryz.ntmps14
 have sb := sbmk w
 (repeat ((fail_if_success with_reducible refine rg ?_); go_step))
 refine wp_region_pw ?_
 refine pw_move (by rfl) (.inr rfl) rfl ?_
 simp only [Act.put, pu]
 refine pw_value (by rfl) (.bool false) (fun _ => rfl) ?_
 simp only [Act.put, pu]
 refine pw_value (by rfl) (.int .i64 0) (fun _ => rfl) ?_
 simp only [Act.put, pu]
 refine pw_nil ?_
 (repeat ((fail_if_success with_reducible refine rg ?_); go_step))
 refine wp_region_pw ?_
 refine pw_mv (by rfl) rfl rfl ?_
 simp only [Act.put, pu]
 refine pw_callB (by rfl) 28 _ _ rfl Tryz.func28 (by kernel_rfl) #[.pointer v] rfl _ (isG_any v z true _ (decide_eq_true (by omega)) (h.below sb)) ?_
 intro z1001 k
 simp only [Act.put, pu]
 replace sb := sb.trans (k.below w.heap.size sb.size (by simp <;> omega))
 clear k
 refine pw_value (by rfl) (.bool false) (exec_not _ _ rfl true rfl) ?_
 simp only [Act.put, pu]
 refine pw_nil ?_
 ·skip
  (repeat ((fail_if_success with_reducible refine rg ?_); go_step))
  refine wp_region_pw ?_
  refine pw_mv (by rfl) rfl rfl ?_
  simp only [Act.put, pu]
  refine pw_value (by rfl) (.int .i64 n) (exec_len_s 34 _ rfl ab n ca rfl sl_natsX) ?_
  simp only [Act.put, pu]
  refine pw_value (by rfl) (.bool false) (exec_eql_k .i64 _ _ _ _ rfl n 0 rfl rfl false (decide_eq_false (by omega))) ?_
  simp only [Act.put, pu]
  refine pw_mv (by rfl) rfl rfl ?_
  simp only [Act.put, pu]
  refine pw_mv (by rfl) rfl rfl ?_
  simp only [Act.put, pu]
  refine pw_value (by rfl) (.int .i64 n) (exec_len_s 34 _ rfl ab n ca rfl sl_natsX) ?_
  simp only [Act.put, pu]
  refine pw_value (by rfl) (.bool false) (exec_gt_i _ _ _ _ rfl n 25 rfl rfl false (decide_eq_false (by omega))) ?_
  simp only [Act.put, pu]
  refine pw_pick (by rfl) false (v := .bool false) rfl rfl rfl ?_
  simp only [Act.put, pu]
  refine pw_nil ?_
  (repeat ((fail_if_success with_reducible refine rg ?_); go_step))
  refine wp_region_pw ?_
  refine pw_mv (by rfl) rfl rfl ?_
  simp only [Act.put, pu]
  refine pw_mv (by rfl) rfl rfl ?_
  simp only [Act.put, pu]
  refine pw_callB (by rfl) 36 _ _ rfl Tryz.func36 (by kernel_rfl) #[.pointer v, .slice ab n ca] rfl _ (hjo _ sb) ?_
  intro z5002 k
  simp only [Act.put, pu]
  replace sb := sb.trans (k.below w.heap.size sb.size (by simp <;> omega))
  clear k
  refine pw_callB (by rfl) 35 _ _ rfl Tryz.func35 (by kernel_rfl) #[.string ⟨(J).toArray⟩] rfl _ (hto _) ?_
  intro z5003 k
  simp only [Act.put, pu]
  replace sb := sb.trans (k.below w.heap.size sb.size (by simp <;> omega))
  clear k
  refine pw_mv (by rfl) rfl rfl ?_
  simp only [Act.put, pu]
  refine pw_ext (by rfl) rfl rfl rfl ?_
  simp only [Act.put, pu]
  refine pw_ext (by rfl) rfl rfl rfl ?_
  simp only [Act.put, pu]
  refine pw_as (by rfl) rfl rfl ?_
  simp only [Act.put, pu]
  refine pw_as (by rfl) rfl rfl ?_
  simp only [Act.put, pu]
  refine pw_nil ?_
  (repeat ((fail_if_success with_reducible refine rg ?_); go_step))
  refine wp_region_pw ?_
  refine pw_mv (by rfl) rfl rfl ?_
  simp only [Act.put, pu]
  refine pw_mv (by rfl) rfl rfl ?_
  simp only [Act.put, pu]
  refine pw_mv (by rfl) rfl rfl ?_
  simp only [Act.put, pu]
  refine pw_callB (by rfl) 9 _ _ rfl Tryz.func9 (by kernel_rfl) #[.pointer v, .string ⟨(V).toArray⟩, .bool B] rfl _ (hpu _ sb) ?_
  intro z6003 k
  simp only [Act.put, pu]
  replace sb := sb.trans (k.below w.heap.size sb.size (by simp <;> omega))
  clear k
  refine pw_mv (by rfl) rfl rfl ?_
  simp only [Act.put, pu]
  refine pw_ext (by rfl) rfl rfl rfl ?_
  simp only [Act.put, pu]
  refine pw_ext (by rfl) rfl rfl rfl ?_
  simp only [Act.put, pu]
  refine pw_as (by rfl) rfl rfl ?_
  simp only [Act.put, pu]
  refine pw_as (by rfl) rfl rfl ?_
  simp only [Act.put, pu]
  refine pw_nil ?_
  (repeat ((fail_if_success with_reducible refine rg ?_); go_step))
  refine wp_region_pw ?_
  refine pw_mv (by rfl) rfl rfl ?_
  simp only [Act.put, pu]
  refine pw_value (by rfl) (.bool true) (exec_neq_k .i64 _ _ _ _ rfl 6 0 rfl rfl true rfl) ?_
  simp only [Act.put, pu]
  refine pw_mv (by rfl) rfl rfl ?_
  simp only [Act.put, pu]
  refine pw_skip (by rfl) ?_
  simp only [Act.put, pu]
  refine pw_skip (by rfl) ?_
  simp only [Act.put, pu]
  refine pw_skip (by rfl) ?_
  simp only [Act.put, pu]
  refine pw_skip (by rfl) ?_
  simp only [Act.put, pu]
  refine pw_pick (by rfl) true (v := .bool true) rfl rfl rfl ?_
  simp only [Act.put, pu]
  refine pw_nil ?_
  (repeat ((fail_if_success with_reducible refine rg ?_); go_step))
  refine wp_region_pw ?_
  refine pw_move (by rfl) (.inr rfl) rfl ?_
  simp only [Act.put, pu]
  refine pw_value (by rfl) (.bool false) (fun _ => rfl) ?_
  simp only [Act.put, pu]
  refine pw_value (by rfl) (.int .i64 4) (fun _ => rfl) ?_
  simp only [Act.put, pu]
  refine pw_nil ?_
  go_wp2
  go_ret3
  exact ⟨rfl, sb⟩
set_option maxRecDepth 100000 in
set_option maxHeartbeats 2000000 in
theorem take_other (v : Option Addr) (z n ca : Nat) (ab : Option Addr) (J V : List UInt8) (B : Bool) (w : World) (hz : 0 < z) (hn0 : ¬ n = 0) (hn : ¬ 25 < n) (h : SzAt w v z)
  (hjo : ∀ w', Below w.heap.size w w' → Calls Tryz.prog 36 #[.pointer v, .slice ab n ca] w' fun e w2 => e = .returned (.string ⟨(J).toArray⟩) ∧ Below w'.heap.size w' w2)
  (hto : ∀ w', Calls Tryz.prog 35 #[.string ⟨(J).toArray⟩] w' fun e w2 => e = .returned (.tuple #[.string ⟨(V).toArray⟩, .bool B]) ∧ Below w'.heap.size w' w2) (m : Nat) (CS : Array Value)
  (hpu : ∀ w', Below w.heap.size w w' → Calls Tryz.prog 9 #[.pointer v, .string ⟨(V).toArray⟩, .bool B] w' fun e w2 => ∃ g, e = .returned (.tuple #[.slice (some ⟨g, 0, none⟩) m m, .int .i64 0]) ∧ w'.heap.size ≤ g ∧ Row w2 g CS 26 ∧ Below w'.heap.size w' w2)
  (heq : ∀ w', Below w.heap.size w w' → ∀ g, Row w' g CS 26 → Calls Tryz.prog 37 #[.slice (some ⟨g, 0, none⟩) m m, .slice ab n ca] w' fun e w2 => e = .returned (.bool false) ∧ Below w'.heap.size w' w2) :
  Calls Tryz.prog 14 #[.pointer v, .slice ab n ca] w fun e w' => e = .returned (.tuple #[.string ⟨([] : List UInt8).toArray⟩, .bool false, .int .i64 4]) ∧ Below w.heap.size w w' := by
 go_enter Tryz.func14, Tryz.ntmps14
 have sb := sbmk w
 (repeat ((fail_if_success with_reducible refine rg ?_); go_step))
 refine wp_region_pw ?_
 refine pw_move (by rfl) (.inr rfl) rfl ?_
 simp only [Act.put, pu]
 refine pw_value (by rfl) (.bool false) (fun _ => rfl) ?_
 simp only [Act.put, pu]
 refine pw_value (by rfl) (.int .i64 0) (fun _ => rfl) ?_
 simp only [Act.put, pu]
 refine pw_nil ?_
 (repeat ((fail_if_success with_reducible refine rg ?_); go_step))
 refine wp_region_pw ?_
 refine pw_mv (by rfl) rfl rfl ?_
 simp only [Act.put, pu]
 refine pw_callB (by rfl) 28 _ _ rfl Tryz.func28 (by kernel_rfl) #[.pointer v] rfl _ (isG_any v z true _ (decide_eq_true (by omega)) (h.below sb)) ?_
 intro z1001 k
 simp only [Act.put, pu]
 replace sb := sb.trans (k.below w.heap.size sb.size (by simp <;> omega))
 clear k
 refine pw_value (by rfl) (.bool false) (exec_not _ _ rfl true rfl) ?_
 simp only [Act.put, pu]
 refine pw_nil ?_
 ·skip
  (repeat ((fail_if_success with_reducible refine rg ?_); go_step))
  refine wp_region_pw ?_
  refine pw_mv (by rfl) rfl rfl ?_
  simp only [Act.put, pu]
  refine pw_value (by rfl) (.int .i64 n) (exec_len_s 34 _ rfl ab n ca rfl sl_natsX) ?_
  simp only [Act.put, pu]
  refine pw_value (by rfl) (.bool false) (exec_eql_k .i64 _ _ _ _ rfl n 0 rfl rfl false (decide_eq_false (by omega))) ?_
  simp only [Act.put, pu]
  refine pw_mv (by rfl) rfl rfl ?_
  simp only [Act.put, pu]
  refine pw_mv (by rfl) rfl rfl ?_
  simp only [Act.put, pu]
  refine pw_value (by rfl) (.int .i64 n) (exec_len_s 34 _ rfl ab n ca rfl sl_natsX) ?_
  simp only [Act.put, pu]
  refine pw_value (by rfl) (.bool false) (exec_gt_i _ _ _ _ rfl n 25 rfl rfl false (decide_eq_false (by omega))) ?_
  simp only [Act.put, pu]
  refine pw_pick (by rfl) false (v := .bool false) rfl rfl rfl ?_
  simp only [Act.put, pu]
  refine pw_nil ?_
  (repeat ((fail_if_success with_reducible refine rg ?_); go_step))
  refine wp_region_pw ?_
  refine pw_mv (by rfl) rfl rfl ?_
  simp only [Act.put, pu]
  refine pw_mv (by rfl) rfl rfl ?_
  simp only [Act.put, pu]
  refine pw_callB (by rfl) 36 _ _ rfl Tryz.func36 (by kernel_rfl) #[.pointer v, .slice ab n ca] rfl _ (hjo _ sb) ?_
  intro z5002 k
  simp only [Act.put, pu]
  replace sb := sb.trans (k.below w.heap.size sb.size (by simp <;> omega))
  clear k
  refine pw_callB (by rfl) 35 _ _ rfl Tryz.func35 (by kernel_rfl) #[.string ⟨(J).toArray⟩] rfl _ (hto _) ?_
  intro z5003 k
  simp only [Act.put, pu]
  replace sb := sb.trans (k.below w.heap.size sb.size (by simp <;> omega))
  clear k
  refine pw_mv (by rfl) rfl rfl ?_
  simp only [Act.put, pu]
  refine pw_ext (by rfl) rfl rfl rfl ?_
  simp only [Act.put, pu]
  refine pw_ext (by rfl) rfl rfl rfl ?_
  simp only [Act.put, pu]
  refine pw_as (by rfl) rfl rfl ?_
  simp only [Act.put, pu]
  refine pw_as (by rfl) rfl rfl ?_
  simp only [Act.put, pu]
  refine pw_nil ?_
  (repeat ((fail_if_success with_reducible refine rg ?_); go_step))
  refine wp_region_pw ?_
  refine pw_mv (by rfl) rfl rfl ?_
  simp only [Act.put, pu]
  refine pw_mv (by rfl) rfl rfl ?_
  simp only [Act.put, pu]
  refine pw_mv (by rfl) rfl rfl ?_
  simp only [Act.put, pu]
  refine pw_callE (by rfl) 9 _ _ rfl Tryz.func9 (by kernel_rfl) #[.pointer v, .string ⟨(V).toArray⟩, .bool B] rfl (hpu _ sb) ?_
  rintro _ z6003 ⟨g, rfl, n', r', hb⟩
  refine ⟨_, rfl, ?_⟩
  simp only [Act.put, pu]
  have b' := Nat.le_trans sb.size n'
  clear n'
  have k := Kept.ofBelow hb
  clear hb
  replace sb := sb.trans (k.below w.heap.size sb.size (by simp <;> omega))
  clear k
  refine pw_mv (by rfl) rfl rfl ?_
  simp only [Act.put, pu]
  refine pw_ext (by rfl) rfl rfl rfl ?_
  simp only [Act.put, pu]
  refine pw_ext (by rfl) rfl rfl rfl ?_
  simp only [Act.put, pu]
  refine pw_as (by rfl) rfl rfl ?_
  simp only [Act.put, pu]
  refine pw_as (by rfl) rfl rfl ?_
  simp only [Act.put, pu]
  refine pw_nil ?_
  (repeat ((fail_if_success with_reducible refine rg ?_); go_step))
  refine wp_region_pw ?_
  refine pw_mv (by rfl) rfl rfl ?_
  simp only [Act.put, pu]
  refine pw_value (by rfl) (.bool false) (exec_neq_k .i64 _ _ _ _ rfl 0 0 rfl rfl false rfl) ?_
  simp only [Act.put, pu]
  refine pw_mv (by rfl) rfl rfl ?_
  simp only [Act.put, pu]
  refine pw_mv (by rfl) rfl rfl ?_
  simp only [Act.put, pu]
  refine pw_mv (by rfl) rfl rfl ?_
  simp only [Act.put, pu]
  refine pw_callB (by rfl) 37 _ _ rfl Tryz.func37 (by kernel_rfl) #[.slice (some ⟨g, 0, none⟩) m m, .slice ab n ca] rfl _ (heq _ sb g r') ?_
  intro z7005 k
  simp only [Act.put, pu]
  replace r' := k.row r' (by simp <;> omega)
  replace sb := sb.trans (k.below w.heap.size sb.size (by simp <;> omega))
  clear k
  refine pw_value (by rfl) (.bool true) (exec_not _ _ rfl false rfl) ?_
  simp only [Act.put, pu]
  refine pw_pick (by rfl) false (v := .bool true) rfl rfl rfl ?_
  simp only [Act.put, pu]
  refine pw_nil ?_
  (repeat ((fail_if_success with_reducible refine rg ?_); go_step))
  refine wp_region_pw ?_
  refine pw_move (by rfl) (.inr rfl) rfl ?_
  simp only [Act.put, pu]
  refine pw_value (by rfl) (.bool false) (fun _ => rfl) ?_
  simp only [Act.put, pu]
  refine pw_value (by rfl) (.int .i64 4) (fun _ => rfl) ?_
  simp only [Act.put, pu]
  refine pw_nil ?_
  go_wp2
  go_ret3
  exact ⟨rfl, sb⟩
set_option maxRecDepth 100000 in
set_option maxHeartbeats 2000000 in
theorem take_same (v : Option Addr) (z n ca : Nat) (ab : Option Addr) (J V : List UInt8) (B : Bool) (w : World) (hz : 0 < z) (hn0 : ¬ n = 0) (hn : ¬ 25 < n) (h : SzAt w v z)
  (hjo : ∀ w', Below w.heap.size w w' → Calls Tryz.prog 36 #[.pointer v, .slice ab n ca] w' fun e w2 => e = .returned (.string ⟨(J).toArray⟩) ∧ Below w'.heap.size w' w2)
  (hto : ∀ w', Calls Tryz.prog 35 #[.string ⟨(J).toArray⟩] w' fun e w2 => e = .returned (.tuple #[.string ⟨(V).toArray⟩, .bool B]) ∧ Below w'.heap.size w' w2) (m : Nat) (CS : Array Value)
  (hpu : ∀ w', Below w.heap.size w w' → Calls Tryz.prog 9 #[.pointer v, .string ⟨(V).toArray⟩, .bool B] w' fun e w2 => ∃ g, e = .returned (.tuple #[.slice (some ⟨g, 0, none⟩) m m, .int .i64 0]) ∧ w'.heap.size ≤ g ∧ Row w2 g CS 26 ∧ Below w'.heap.size w' w2)
  (heq : ∀ w', Below w.heap.size w w' → ∀ g, Row w' g CS 26 → Calls Tryz.prog 37 #[.slice (some ⟨g, 0, none⟩) m m, .slice ab n ca] w' fun e w2 => e = .returned (.bool true) ∧ Below w'.heap.size w' w2) :
  Calls Tryz.prog 14 #[.pointer v, .slice ab n ca] w fun e w' => e = .returned (.tuple #[.string ⟨(V).toArray⟩, .bool B, .int .i64 0]) ∧ Below w.heap.size w w' := by
 go_enter Tryz.func14, Tryz.ntmps14
 have sb := sbmk w
 (repeat ((fail_if_success with_reducible refine rg ?_); go_step))
 refine wp_region_pw ?_
 refine pw_move (by rfl) (.inr rfl) rfl ?_
 simp only [Act.put, pu]
 refine pw_value (by rfl) (.bool false) (fun _ => rfl) ?_
 simp only [Act.put, pu]
 refine pw_value (by rfl) (.int .i64 0) (fun _ => rfl) ?_
 simp only [Act.put, pu]
 refine pw_nil ?_
 (repeat ((fail_if_success with_reducible refine rg ?_); go_step))
 refine wp_region_pw ?_
 refine pw_mv (by rfl) rfl rfl ?_
 simp only [Act.put, pu]
 refine pw_callB (by rfl) 28 _ _ rfl Tryz.func28 (by kernel_rfl) #[.pointer v] rfl _ (isG_any v z true _ (decide_eq_true (by omega)) (h.below sb)) ?_
 intro z1001 k
 simp only [Act.put, pu]
 replace sb := sb.trans (k.below w.heap.size sb.size (by simp <;> omega))
 clear k
 refine pw_value (by rfl) (.bool false) (exec_not _ _ rfl true rfl) ?_
 simp only [Act.put, pu]
 refine pw_nil ?_
 ·skip
  (repeat ((fail_if_success with_reducible refine rg ?_); go_step))
  refine wp_region_pw ?_
  refine pw_mv (by rfl) rfl rfl ?_
  simp only [Act.put, pu]
  refine pw_value (by rfl) (.int .i64 n) (exec_len_s 34 _ rfl ab n ca rfl sl_natsX) ?_
  simp only [Act.put, pu]
  refine pw_value (by rfl) (.bool false) (exec_eql_k .i64 _ _ _ _ rfl n 0 rfl rfl false (decide_eq_false (by omega))) ?_
  simp only [Act.put, pu]
  refine pw_mv (by rfl) rfl rfl ?_
  simp only [Act.put, pu]
  refine pw_mv (by rfl) rfl rfl ?_
  simp only [Act.put, pu]
  refine pw_value (by rfl) (.int .i64 n) (exec_len_s 34 _ rfl ab n ca rfl sl_natsX) ?_
  simp only [Act.put, pu]
  refine pw_value (by rfl) (.bool false) (exec_gt_i _ _ _ _ rfl n 25 rfl rfl false (decide_eq_false (by omega))) ?_
  simp only [Act.put, pu]
  refine pw_pick (by rfl) false (v := .bool false) rfl rfl rfl ?_
  simp only [Act.put, pu]
  refine pw_nil ?_
  (repeat ((fail_if_success with_reducible refine rg ?_); go_step))
  refine wp_region_pw ?_
  refine pw_mv (by rfl) rfl rfl ?_
  simp only [Act.put, pu]
  refine pw_mv (by rfl) rfl rfl ?_
  simp only [Act.put, pu]
  refine pw_callB (by rfl) 36 _ _ rfl Tryz.func36 (by kernel_rfl) #[.pointer v, .slice ab n ca] rfl _ (hjo _ sb) ?_
  intro z5002 k
  simp only [Act.put, pu]
  replace sb := sb.trans (k.below w.heap.size sb.size (by simp <;> omega))
  clear k
  refine pw_callB (by rfl) 35 _ _ rfl Tryz.func35 (by kernel_rfl) #[.string ⟨(J).toArray⟩] rfl _ (hto _) ?_
  intro z5003 k
  simp only [Act.put, pu]
  replace sb := sb.trans (k.below w.heap.size sb.size (by simp <;> omega))
  clear k
  refine pw_mv (by rfl) rfl rfl ?_
  simp only [Act.put, pu]
  refine pw_ext (by rfl) rfl rfl rfl ?_
  simp only [Act.put, pu]
  refine pw_ext (by rfl) rfl rfl rfl ?_
  simp only [Act.put, pu]
  refine pw_as (by rfl) rfl rfl ?_
  simp only [Act.put, pu]
  refine pw_as (by rfl) rfl rfl ?_
  simp only [Act.put, pu]
  refine pw_nil ?_
  (repeat ((fail_if_success with_reducible refine rg ?_); go_step))
  refine wp_region_pw ?_
  refine pw_mv (by rfl) rfl rfl ?_
  simp only [Act.put, pu]
  refine pw_mv (by rfl) rfl rfl ?_
  simp only [Act.put, pu]
  refine pw_mv (by rfl) rfl rfl ?_
  simp only [Act.put, pu]
  refine pw_callE (by rfl) 9 _ _ rfl Tryz.func9 (by kernel_rfl) #[.pointer v, .string ⟨(V).toArray⟩, .bool B] rfl (hpu _ sb) ?_
  rintro _ z6003 ⟨g, rfl, n', r', hb⟩
  refine ⟨_, rfl, ?_⟩
  simp only [Act.put, pu]
  have b' := Nat.le_trans sb.size n'
  clear n'
  have k := Kept.ofBelow hb
  clear hb
  replace sb := sb.trans (k.below w.heap.size sb.size (by simp <;> omega))
  clear k
  refine pw_mv (by rfl) rfl rfl ?_
  simp only [Act.put, pu]
  refine pw_ext (by rfl) rfl rfl rfl ?_
  simp only [Act.put, pu]
  refine pw_ext (by rfl) rfl rfl rfl ?_
  simp only [Act.put, pu]
  refine pw_as (by rfl) rfl rfl ?_
  simp only [Act.put, pu]
  refine pw_as (by rfl) rfl rfl ?_
  simp only [Act.put, pu]
  refine pw_nil ?_
  (repeat ((fail_if_success with_reducible refine rg ?_); go_step))
  refine wp_region_pw ?_
  refine pw_mv (by rfl) rfl rfl ?_
  simp only [Act.put, pu]
  refine pw_value (by rfl) (.bool false) (exec_neq_k .i64 _ _ _ _ rfl 0 0 rfl rfl false rfl) ?_
  simp only [Act.put, pu]
  refine pw_mv (by rfl) rfl rfl ?_
  simp only [Act.put, pu]
  refine pw_mv (by rfl) rfl rfl ?_
  simp only [Act.put, pu]
  refine pw_mv (by rfl) rfl rfl ?_
  simp only [Act.put, pu]
  refine pw_callB (by rfl) 37 _ _ rfl Tryz.func37 (by kernel_rfl) #[.slice (some ⟨g, 0, none⟩) m m, .slice ab n ca] rfl _ (heq _ sb g r') ?_
  intro z7005 k
  simp only [Act.put, pu]
  replace r' := k.row r' (by simp <;> omega)
  replace sb := sb.trans (k.below w.heap.size sb.size (by simp <;> omega))
  clear k
  refine pw_value (by rfl) (.bool false) (exec_not _ _ rfl true rfl) ?_
  simp only [Act.put, pu]
  refine pw_pick (by rfl) false (v := .bool false) rfl rfl rfl ?_
  simp only [Act.put, pu]
  refine pw_nil ?_
  (repeat ((fail_if_success with_reducible refine rg ?_); go_step))
  refine wp_region_pw ?_
  refine pw_mv (by rfl) rfl rfl ?_
  simp only [Act.put, pu]
  refine pw_mv (by rfl) rfl rfl ?_
  simp only [Act.put, pu]
  refine pw_as (by rfl) rfl rfl ?_
  simp only [Act.put, pu]
  refine pw_as (by rfl) rfl rfl ?_
  simp only [Act.put, pu]
  refine pw_value (by rfl) (.int .i64 0) (fun _ => rfl) ?_
  simp only [Act.put, pu]
  refine pw_nil ?_
  go_wp2
  go_ret3
  exact ⟨rfl, sb⟩
theorem ckTake_any (v : Option Addr) (z n ca : Nat) (ab : Option Addr) (f : Nat → Nat) (gb ob : Nat) (bcs : Array Value) (tb : TypeId) (w : World) (hz : 0 < z) (hz2 : z ≤ 32) (h : SzAt w v z) (hna : NatsAt w ab n f gb ob bcs tb) :
  Calls Tryz.prog 14 #[.pointer v, .slice ab n ca] w fun e w' => e = .returned (.tuple #[.string ⟨(tkV z n f).toArray⟩, .bool (tkT z n f), .int .i64 (tkE z n f)]) ∧ Below w.heap.size w w' := by
 by_cases hfew : n = 0 ∨ 25 < n
 ·obtain ⟨e1, e2, e3⟩ := tk_none (tkR_few (f := f) hz hfew)
  rw [e1, e2, e3]
  exact take_few v z n ca ab w hz hfew h
 have hn0 : ¬ n = 0 := fun h => hfew (.inl h)
 have hn : ¬ 25 < n := fun h => hfew (.inr h)
 have hjo := fun w' (hb : Below w.heap.size w w') => joined_any v z n ca ab f gb ob bcs tb w' hz2 (by omega) (h.below hb) (hna.below hb)
 have hjl : 0 < (jn z f n).length := by
  have h1 := jn_length z f n
  have h2 : 1 * 1 ≤ n * z := Nat.mul_le_mul (by omega) hz
  omega
 have hj2 : (jn z f n).length ≤ 100000 := by
  have h1 : ∀ k, k ≤ n → (jn z f k).length ≤ 32 * k := by
   intro k
   induction k with
   | zero => intro _; simp [jn]
   | succ k ih =>
    intro hk
    have := flz_le hz2 (hna.lt k (by omega))
    have := ih (by omega)
    rw [jn, List.length_append]
    omega
  have := h1 n (Nat.le_refl _)
  omega
 have hto := fun w' => told_any (jn z f n) w' hjl hj2
 by_cases h24 : tdT (jn z f n) = true ∧ 24 < (tdV (jn z f n)).length
 ·have hno : tkR z n f = none := tkR_not fun hc => by have := hc.1; omega
  obtain ⟨e1, e2, e3⟩ := tk_none hno
  rw [e1, e2, e3]
  refine take_big v z n ca ab _ _ _ w hz hn0 hn h hjo hto fun w' hb => ?_
  rw [h24.1]
  exact put_big v z _ w' hz h24.2 (h.below hb)
 have hlen : tdT (jn z f n) = true → (tdV (jn z f n)).length ≤ 24 := fun ht => by
  by_cases hl : 24 < (tdV (jn z f n)).length
  ·exact absurd ⟨ht, hl⟩ h24
  ·omega
 have hlen' : (tdV (jn z f n)).length ≤ 24 := by
  cases ht : tdT (jn z f n) with
  | false => rw [tdV_no ht]; decide
  | true => exact hlen ht
 have hpu := fun w' (hb : Below w.heap.size w w') => put_ok v z (tdV (jn z f n)) (tdT (jn z f n)) w' hz hz2 hlen (h.below hb)
 have hlt : ∀ i, i < pN (ckL (tdV (jn z f n)) (tdT (jn z f n))).length z → ckF (ckL (tdV (jn z f n)) (tdT (jn z f n))) z i < 2 ^ 256 := fun i _ => ckF_256 _ _ hz2
 by_cases hc : ckIs z n f (tdV (jn z f n)) (tdT (jn z f n))
 ·have hyes : tkR z n f = some (tdV (jn z f n), tdT (jn z f n)) := by unfold tkR; rw [if_pos hc]
  obtain ⟨e1, e2, e3⟩ := tk_some hyes
  rw [e1, e2, e3]
  refine take_same v z n ca ab _ _ _ w hz hn0 hn h hjo hto _ _ hpu fun w' hb g r => ?_
  obtain ⟨_, hnp, hfe⟩ := hc
  have hr := nats_row r hlt
  rw [← hnp] at hr ⊢
  exact equal_any n n ca _ ab _ f g 0 gb ob _ bcs _ tb w' true ⟨fun _ k hk => (hfe k hk).symm, fun _ => rfl⟩ (by omega) hr (hna.below hb)
 ·obtain ⟨e1, e2, e3⟩ := tk_none (tkR_not hc)
  rw [e1, e2, e3]
  refine take_other v z n ca ab _ _ _ w hz hn0 hn h hjo hto _ _ hpu fun w' hb g r => ?_
  by_cases hnp : pN (ckL (tdV (jn z f n)) (tdT (jn z f n))).length z = n
  ·have hr := nats_row r hlt
   rw [hnp] at hr ⊢
   refine equal_any n n ca _ ab _ f g 0 gb ob _ bcs _ tb w' false ⟨fun e => (by cases e), fun hall => ?_⟩ (by omega) hr (hna.below hb)
   exact absurd ⟨hlen', hnp.symm, fun k hk => (hall k hk).symm⟩ hc
  ·exact equal_len _ n _ ca _ ab w' hnp
end Go.Proofs.YtdemabfpcepnfaaGreatDoor
