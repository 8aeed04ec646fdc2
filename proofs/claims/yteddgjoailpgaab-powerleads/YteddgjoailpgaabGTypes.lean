/- Layer 7's rows: parameters, what a group was made of, a group, links one behind the other. -/
import Derived.Test.YteddgjoailpgaabPX
import Derived.Test.YteddgjoailpgaabGWalk
import Derived.Test.YteddgjoailpgaabPM
namespace Go.Proofs.Yteddgjoailpgaab
open Go.RowKit
/-- The cells of parameters. -/
def paC (ab : Option Addr) (n c G : Nat) : Array Value := #[.slice ab n c, .int .u64 (lm G 0), .int .u64 (lm G 1), .int .u64 (lm G 2), .int .u64 (lm G 3)]
theorem pa_g (ab : Option Addr) (n c G : Nat) : ∀ j v, (natC G).toList[j]? = some v → (paC ab n c G)[1 + j]? = some v := part4 rfl rfl rfl rfl
theorem pa_one (ab : Option Addr) (n c G : Nat) : (paC ab n c G).all (·.oneCell') = true := by simp [paC, Value.oneCell']
theorem info_pa : (Try.prog.info? 27).map (fun i => (i.zero, i.size)) = some (some (.agg (paC none 0 0 0)), 5) := by kernel_rfl
theorem zero_pa (w : World) : (zeroValue 27).run Try.prog w = .ok (.agg (paC none 0 0 0)) w := (zero_of_info info_pa).1 w
theorem size_pa : (Try.prog.info? 27).map (·.size) = some 5 := (zero_of_info info_pa).2
theorem built_pa0 : Try.prog.built 27 [] = some (paC none 0 0 0) := by kernel_rfl
theorem built_pa (ab : Option Addr) (n c G : Nat) : Try.prog.built 27 [(0, .slice ab n c), (1, .agg (natC G))] = some (paC ab n c G) := by
 unfold natC paC
 generalize lm G 0 = a0
 generalize lm G 1 = a1
 generalize lm G 2 = a2
 generalize lm G 3 = a3
 kernel_rfl
theorem built_paG (G : Nat) : Try.prog.built 27 [(1, .agg (natC G))] = some (paC none 0 0 G) := by
 unfold natC paC
 generalize lm G 0 = a0
 generalize lm G 1 = a1
 generalize lm G 2 = a2
 generalize lm G 3 = a3
 kernel_rfl
/-- The cells of what a group was made of. -/
def mdC (P Q G : Nat) : Array Value := #[.int .u64 (lm P 0), .int .u64 (lm P 1), .int .u64 (lm P 2), .int .u64 (lm P 3), .int .u64 (lm Q 0), .int .u64 (lm Q 1), .int .u64 (lm Q 2), .int .u64 (lm Q 3), .int .u64 (lm G 0), .int .u64 (lm G 1), .int .u64 (lm G 2), .int .u64 (lm G 3)]
theorem md_p (P Q G : Nat) : ∀ j v, (natC P).toList[j]? = some v → (mdC P Q G)[0 + j]? = some v := part4 rfl rfl rfl rfl
theorem md_q (P Q G : Nat) : ∀ j v, (natC Q).toList[j]? = some v → (mdC P Q G)[4 + j]? = some v := part4 rfl rfl rfl rfl
theorem md_g (P Q G : Nat) : ∀ j v, (natC G).toList[j]? = some v → (mdC P Q G)[8 + j]? = some v := part4 rfl rfl rfl rfl
theorem md_one (P Q G : Nat) : (mdC P Q G).all (·.oneCell') = true := by simp [mdC, Value.oneCell']
theorem info_md : (Try.prog.info? 47).map (fun i => (i.zero, i.size)) = some (some (.agg (mdC 0 0 0)), 12) := by kernel_rfl
theorem zero_md (w : World) : (zeroValue 47).run Try.prog w = .ok (.agg (mdC 0 0 0)) w := (zero_of_info info_md).1 w
theorem size_md : (Try.prog.info? 47).map (·.size) = some 12 := (zero_of_info info_md).2
set_option maxRecDepth 100000 in
theorem built_md (P Q G : Nat) : Try.prog.built 47 [(0, .agg (natC P)), (1, .agg (natC Q)), (2, .agg (natC G))] = some (mdC P Q G) := by
 unfold natC mdC
 generalize lm P 0 = a0
 generalize lm P 1 = a1
 generalize lm P 2 = a2
 generalize lm P 3 = a3
 generalize lm Q 0 = b0
 generalize lm Q 1 = b1
 generalize lm Q 2 = b2
 generalize lm Q 3 = b3
 generalize lm G 0 = c0
 generalize lm G 1 = c1
 generalize lm G 2 = c2
 generalize lm G 3 = c3
 kernel_rfl
/-- The cells of a group. -/
def gpC (P Q G : Nat) (r f : Option Addr) : Array Value := #[.int .u64 (lm P 0), .int .u64 (lm P 1), .int .u64 (lm P 2), .int .u64 (lm P 3), .int .u64 (lm Q 0), .int .u64 (lm Q 1), .int .u64 (lm Q 2), .int .u64 (lm Q 3), .int .u64 (lm G 0), .int .u64 (lm G 1), .int .u64 (lm G 2), .int .u64 (lm G 3), .pointer r, .pointer f]
theorem gp_one (P Q G : Nat) (r f : Option Addr) : (gpC P Q G r f).all (·.oneCell') = true := by simp [gpC, Value.oneCell']
theorem info_gp : (Try.prog.info? 54).map (fun i => (i.zero, i.size)) = some (some (.agg (gpC 0 0 0 none none)), 14) := by kernel_rfl
theorem zero_gp (w : World) : (zeroValue 54).run Try.prog w = .ok (.agg (gpC 0 0 0 none none)) w := (zero_of_info info_gp).1 w
theorem size_gp : (Try.prog.info? 54).map (·.size) = some 14 := (zero_of_info info_gp).2
theorem built_gp0 : Try.prog.built 54 [] = some (gpC 0 0 0 none none) := by kernel_rfl
set_option maxRecDepth 100000 in
theorem built_gp (P Q G : Nat) (r f : Option Addr) : Try.prog.built 54 [(0, .agg (mdC P Q G)), (1, .pointer r), (2, .pointer f)] = some (gpC P Q G r f) := by
 unfold mdC gpC
 generalize lm P 0 = a0
 generalize lm P 1 = a1
 generalize lm P 2 = a2
 generalize lm P 3 = a3
 generalize lm Q 0 = b0
 generalize lm Q 1 = b1
 generalize lm Q 2 = b2
 generalize lm Q 3 = b3
 generalize lm G 0 = c0
 generalize lm G 1 = c1
 generalize lm G 2 = c2
 generalize lm G 3 = c3
 kernel_rfl
/-- Fields of a group that is a value. -/
theorem gp_made (P Q G : Nat) (r f : Option Addr) (w : World) : (Instr.field 54 (.agg (gpC P Q G r f)) 0).run Try.prog w = .ok (.agg (mdC P Q G)) w := by
 unfold mdC gpC
 generalize lm P 0 = a0
 generalize lm P 1 = a1
 generalize lm P 2 = a2
 generalize lm P 3 = a3
 generalize lm Q 0 = b0
 generalize lm Q 1 = b1
 generalize lm Q 2 = b2
 generalize lm Q 3 = b3
 generalize lm G 0 = c0
 generalize lm G 1 = c1
 generalize lm G 2 = c2
 generalize lm G 3 = c3
 kernel_rfl
theorem gp_ring (P Q G : Nat) (r f : Option Addr) (w : World) : (Instr.field 54 (.agg (gpC P Q G r f)) 1).run Try.prog w = .ok (.pointer r) w := by
 unfold gpC
 kernel_rfl
theorem gp_field (P Q G : Nat) (r f : Option Addr) (w : World) : (Instr.field 54 (.agg (gpC P Q G r f)) 2).run Try.prog w = .ok (.pointer f) w := by
 unfold gpC
 kernel_rfl
theorem mdf_p (P Q G : Nat) (w : World) : (Instr.field 47 (.agg (mdC P Q G)) 0).run Try.prog w = .ok (.agg (natC P)) w := by
 unfold mdC natC
 kernel_rfl
theorem mdf_q (P Q G : Nat) (w : World) : (Instr.field 47 (.agg (mdC P Q G)) 1).run Try.prog w = .ok (.agg (natC Q)) w := by
 unfold mdC natC
 kernel_rfl
theorem mdf_g (P Q G : Nat) (w : World) : (Instr.field 47 (.agg (mdC P Q G)) 2).run Try.prog w = .ok (.agg (natC G)) w := by
 unfold mdC natC
 kernel_rfl
/-- A cell of a link. -/
def lkv (N : Nat) (z : Int) (j : Nat) : Value := if j = 4 then .int .i64 z else .int .u64 (lm N j : Nat)
theorem lkv_get (N : Nat) (z : Int) (j : Nat) (h : j < 5) : (lkC N z)[j]? = some (lkv N z j) := by
 match j, h with
 | 0, _ => rfl
 | 1, _ => rfl
 | 2, _ => rfl
 | 3, _ => rfl
 | 4, _ => rfl
/-- Links one behind the other. -/
def lksC (n : Nat) (N : Nat → Nat) (A : Nat → Int) : Array Value := Array.ofFn (n := 5 * n) fun i => lkv (N (i / 5)) (A (i / 5)) (i % 5)
theorem lksC_size (n : Nat) (N : Nat → Nat) (A : Nat → Int) : (lksC n N A).size = 5 * n := by simp [lksC]
theorem lksC_get (n : Nat) (N : Nat → Nat) (A : Nat → Int) (i : Nat) (h : i < 5 * n) : (lksC n N A)[i]? = some (lkv (N (i / 5)) (A (i / 5)) (i % 5)) := by simp [lksC, h]
theorem lksC_congr (n : Nat) (N M : Nat → Nat) (A B : Nat → Int) (h : ∀ k, k < n → N k = M k ∧ A k = B k) : lksC n N A = lksC n M B := by
 apply Array.ext (by rw [lksC_size, lksC_size])
 intro i h1 h2
 rw [lksC_size] at h1
 have e1 := lksC_get n N A i h1
 have e2 := lksC_get n M B i h1
 have := h (i / 5) (by omega)
 rw [this.1, this.2, ← e2] at e1
 rw [Array.getElem?_eq_getElem (by rw [lksC_size]; exact h1), Array.getElem?_eq_getElem (by rw [lksC_size]; exact h1)] at e1
 exact Option.some.inj e1
theorem lks_links {w : World} {g n : Nat} {N : Nat → Nat} {A : Nat → Int} (h : Row w g (lksC n N A) 44) (hN : ∀ i, i < n → N i < 2 ^ 256) : LinksAt w (some ⟨g, 0, none⟩) n N A g 0 (lksC n N A) 44 :=
 ⟨.inr ⟨rfl, h.r, fun i hi j v hv => by
  rw [Array.getElem?_toList] at hv
  have hj : j < 5 := by
   have := (Array.getElem?_eq_some_iff.1 hv).1
   rw [lkC_size] at this
   exact this
  rw [lkv_get _ _ _ hj] at hv
  rw [lksC_get n N A _ (by omega), show (0 + i * 5 + j) / 5 = i by omega, show (0 + i * 5 + j) % 5 = j by omega]
  exact hv⟩, hN⟩
theorem array_ext? {x y : Array Value} (h : ∀ i : Nat, x[i]? = y[i]?) : x = y := by
 apply Array.toList_inj.1
 apply List.ext_getElem?
 intro i
 rw [Array.getElem?_toList, Array.getElem?_toList]
 exact h i
theorem lksC_out (n : Nat) (N : Nat → Nat) (A : Nat → Int) (i : Nat) (h : ¬ i < 5 * n) : (lksC n N A)[i]? = none := by
 rw [Array.getElem?_eq_none_iff, lksC_size]; omega
/-- A link's number is stored. -/
theorem lksC_putN (n : Nat) (N M : Nat → Nat) (A : Nat → Int) (k X off : Nat) (hk : k < n) (ho : off = k * 5) (hM : ∀ j, j < n → M j = if j = k then X else N j) : putL (lksC n N A) off (natC X).toList = lksC n M A := by
 subst ho
 apply array_ext?
 intro i
 rw [putL_get _ _ _ _ (by rw [lksC_size]; show k * 5 + 4 ≤ 5 * n; omega)]
 by_cases hi : i < 5 * n
 ·have hM' := hM (i / 5) (by omega)
  rw [lksC_get n M A i hi, lksC_get n N A i hi, hM']
  have hlen : (natC X).toList.length = 4 := rfl
  rw [hlen]
  by_cases h1 : k * 5 ≤ i ∧ i < k * 5 + 4
  ·rw [if_pos h1, if_pos (show i / 5 = k by omega)]
   have h4 : ¬ i % 5 = 4 := by omega
   have : i % 5 < 4 := by omega
   rw [show i - k * 5 = i % 5 by omega]
   unfold lkv
   rw [if_neg h4]
   rw [natC_list]
   generalize i % 5 = j at *
   match j, this with
   | 0, _ => rfl
   | 1, _ => rfl
   | 2, _ => rfl
   | 3, _ => rfl
  ·rw [if_neg h1]
   by_cases h2 : i / 5 = k
   ·have h4 : i % 5 = 4 := by omega
    unfold lkv
    rw [if_pos h4, if_pos h4]
   ·rw [if_neg h2]
 ·rw [lksC_out _ _ _ _ hi, if_neg (by show ¬ (k * 5 ≤ i ∧ i < k * 5 + 4); omega), lksC_out _ _ _ _ hi]
/-- A link's witness is stored. -/
theorem lksC_putA (n : Nat) (N : Nat → Nat) (A B : Nat → Int) (k off : Nat) (z : Int) (hk : k < n) (ho : off = k * 5 + 4) (hB : ∀ j, j < n → B j = if j = k then z else A j) : (lksC n N A).setIfInBounds off (.int .i64 z) = lksC n N B := by
 subst ho
 apply array_ext?
 intro i
 rw [Array.getElem?_setIfInBounds]
 by_cases hi : i < 5 * n
 ·have hB' := hB (i / 5) (by omega)
  rw [lksC_get n N B i hi, hB']
  by_cases h1 : k * 5 + 4 = i
  ·rw [if_pos h1, if_pos (by rw [lksC_size]; omega), if_pos (show i / 5 = k by omega)]
   unfold lkv
   rw [if_pos (by omega)]
  ·rw [if_neg h1, lksC_get n N A i hi]
   by_cases h2 : i / 5 = k
   ·unfold lkv
    rw [if_neg (by omega), if_neg (by omega)]
   ·rw [if_neg h2]
 ·rw [if_neg (by omega), lksC_out _ _ _ _ hi, lksC_out _ _ _ _ hi]
theorem made_lks (n : Nat) (m : Nat) (hm : m = n * 5) : madeCells (Value.agg #[.int .u64 0, .int .u64 0, .int .u64 0, .int .u64 0, .int .i64 0]).cells m = lksC n (fun _ => 0) (fun _ => 0) := by
 subst hm
 apply array_ext?
 intro i
 by_cases hi : i < 5 * n
 ·rw [lksC_get n _ _ i hi]
  unfold madeCells
  rw [Array.getElem?_map, Array.getElem?_range, if_pos (show i < n * 5 by omega), Option.map_some]
  show some ((#[.int .u64 0, .int .u64 0, .int .u64 0, .int .u64 0, .int .i64 0] : Array Value)[i % 5]!) = _
  have : i % 5 < 5 := Nat.mod_lt _ (by decide)
  generalize i % 5 = j at *
  match j, this with
  | 0, _ => rfl
  | 1, _ => rfl
  | 2, _ => rfl
  | 3, _ => rfl
  | 4, _ => rfl
 ·rw [lksC_out _ _ _ _ hi, Array.getElem?_eq_none (by rw [size_madeCells]; omega)]
end Go.Proofs.Yteddgjoailpgaab
