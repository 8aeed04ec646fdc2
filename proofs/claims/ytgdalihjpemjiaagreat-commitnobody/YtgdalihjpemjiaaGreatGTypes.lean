import Derived.Test.YtgdalihjpemjiaaGreatPX
import Derived.Test.YtgdalihjpemjiaaGreatGWalk
import Derived.Test.YtgdalihjpemjiaaGreatPM
namespace Go.Proofs.YtgdalihjpemjiaaGreat
set_option linter.unusedVariables false
open Go.RowKit
def paC (ab : Option Addr) (n c G : Nat) : Array Value := #[.slice ab n c, .int .u64 (lm G 0), .int .u64 (lm G 1), .int .u64 (lm G 2), .int .u64 (lm G 3)]
theorem pa_g (ab : Option Addr) (n c G : Nat) : ∀ j v, (natC G).toList[j]? = some v → (paC ab n c G)[1 + j]? = some v := part4 rfl rfl rfl rfl
theorem pa_one (ab : Option Addr) (n c G : Nat) : (paC ab n c G).all (·.oneCell') = true := by simp [paC, Value.oneCell']
theorem info_pa : (Tryz.prog.info? 56).map (fun i => (i.zero, i.size)) = some (some (.agg (paC none 0 0 0)), 5) := by kernel_rfl
theorem zero_pa (w : World) : (zeroValue 56).run Tryz.prog w = .ok (.agg (paC none 0 0 0)) w := (zero_of_info info_pa).1 w
theorem size_pa : (Tryz.prog.info? 56).map (·.size) = some 5 := (zero_of_info info_pa).2
theorem built_pa (ab : Option Addr) (n c G : Nat) : Tryz.prog.built 56 [(0, .slice ab n c), (1, .agg (natC G))] = some (paC ab n c G) := by
 unfold natC paC
 generalize lm G 0 = a0
 generalize lm G 1 = a1
 generalize lm G 2 = a2
 generalize lm G 3 = a3
 kernel_rfl
def mdC (P Q G : Nat) : Array Value := #[.int .u64 (lm P 0), .int .u64 (lm P 1), .int .u64 (lm P 2), .int .u64 (lm P 3), .int .u64 (lm Q 0), .int .u64 (lm Q 1), .int .u64 (lm Q 2), .int .u64 (lm Q 3), .int .u64 (lm G 0), .int .u64 (lm G 1), .int .u64 (lm G 2), .int .u64 (lm G 3)]
theorem md_p (P Q G : Nat) : ∀ j v, (natC P).toList[j]? = some v → (mdC P Q G)[0 + j]? = some v := part4 rfl rfl rfl rfl
theorem md_q (P Q G : Nat) : ∀ j v, (natC Q).toList[j]? = some v → (mdC P Q G)[4 + j]? = some v := part4 rfl rfl rfl rfl
theorem md_g (P Q G : Nat) : ∀ j v, (natC G).toList[j]? = some v → (mdC P Q G)[8 + j]? = some v := part4 rfl rfl rfl rfl
theorem md_one (P Q G : Nat) : (mdC P Q G).all (·.oneCell') = true := by simp [mdC, Value.oneCell']
theorem info_md : (Tryz.prog.info? 70).map (fun i => (i.zero, i.size)) = some (some (.agg (mdC 0 0 0)), 12) := by kernel_rfl
theorem zero_md (w : World) : (zeroValue 70).run Tryz.prog w = .ok (.agg (mdC 0 0 0)) w := (zero_of_info info_md).1 w
theorem size_md : (Tryz.prog.info? 70).map (·.size) = some 12 := (zero_of_info info_md).2
set_option maxRecDepth 100000 in
theorem built_md (P Q G : Nat) : Tryz.prog.built 70 [(0, .agg (natC P)), (1, .agg (natC Q)), (2, .agg (natC G))] = some (mdC P Q G) := by
 unfold natC mdC
 generalize lm P 0 = a0
 generalize lm P 1 = a1
 generalize lm P 2 = a2
 generalize lm P 3 = a3
 generalize lm Q 0 = b0
 generalize lm Q 1 = b1
 generalize lm Q 2 = b2
 generalize lm Q 3 = b3
 generalize lm G 0 = c0
 generalize lm G 1 = c1
 generalize lm G 2 = c2
 generalize lm G 3 = c3
 kernel_rfl
def gpC (P Q G : Nat) (r f : Option Addr) : Array Value := #[.int .u64 (lm P 0), .int .u64 (lm P 1), .int .u64 (lm P 2), .int .u64 (lm P 3), .int .u64 (lm Q 0), .int .u64 (lm Q 1), .int .u64 (lm Q 2), .int .u64 (lm Q 3), .int .u64 (lm G 0), .int .u64 (lm G 1), .int .u64 (lm G 2), .int .u64 (lm G 3), .pointer r, .pointer f]
theorem gp_one (P Q G : Nat) (r f : Option Addr) : (gpC P Q G r f).all (·.oneCell') = true := by simp [gpC, Value.oneCell']
theorem info_gp : (Tryz.prog.info? 73).map (fun i => (i.zero, i.size)) = some (some (.agg (gpC 0 0 0 none none)), 14) := by kernel_rfl
theorem zero_gp (w : World) : (zeroValue 73).run Tryz.prog w = .ok (.agg (gpC 0 0 0 none none)) w := (zero_of_info info_gp).1 w
theorem size_gp : (Tryz.prog.info? 73).map (·.size) = some 14 := (zero_of_info info_gp).2
theorem built_gp0 : Tryz.prog.built 73 [] = some (gpC 0 0 0 none none) := by kernel_rfl
set_option maxRecDepth 100000 in
theorem built_gp (P Q G : Nat) (r f : Option Addr) : Tryz.prog.built 73 [(0, .agg (mdC P Q G)), (1, .pointer r), (2, .pointer f)] = some (gpC P Q G r f) := by
 unfold mdC gpC
 generalize lm P 0 = a0
 generalize lm P 1 = a1
 generalize lm P 2 = a2
 generalize lm P 3 = a3
 generalize lm Q 0 = b0
 generalize lm Q 1 = b1
 generalize lm Q 2 = b2
 generalize lm Q 3 = b3
 generalize lm G 0 = c0
 generalize lm G 1 = c1
 generalize lm G 2 = c2
 generalize lm G 3 = c3
 kernel_rfl
theorem gp_made (P Q G : Nat) (r f : Option Addr) (w : World) : (Instr.field 73 (.agg (gpC P Q G r f)) 0).run Tryz.prog w = .ok (.agg (mdC P Q G)) w := by
 unfold mdC gpC
 generalize lm P 0 = a0
 generalize lm P 1 = a1
 generalize lm P 2 = a2
 generalize lm P 3 = a3
 generalize lm Q 0 = b0
 generalize lm Q 1 = b1
 generalize lm Q 2 = b2
 generalize lm Q 3 = b3
 generalize lm G 0 = c0
 generalize lm G 1 = c1
 generalize lm G 2 = c2
 generalize lm G 3 = c3
 kernel_rfl
theorem gp_ring (P Q G : Nat) (r f : Option Addr) (w : World) : (Instr.field 73 (.agg (gpC P Q G r f)) 1).run Tryz.prog w = .ok (.pointer r) w := by
 unfold gpC
 kernel_rfl
theorem gp_field (P Q G : Nat) (r f : Option Addr) (w : World) : (Instr.field 73 (.agg (gpC P Q G r f)) 2).run Tryz.prog w = .ok (.pointer f) w := by
 unfold gpC
 kernel_rfl
theorem mdf_q (P Q G : Nat) (w : World) : (Instr.field 70 (.agg (mdC P Q G)) 1).run Tryz.prog w = .ok (.agg (natC Q)) w := by
 unfold mdC natC
 kernel_rfl
theorem mdf_g (P Q G : Nat) (w : World) : (Instr.field 70 (.agg (mdC P Q G)) 2).run Tryz.prog w = .ok (.agg (natC G)) w := by
 unfold mdC natC
 kernel_rfl
def lkv (N : Nat) (z : Int) (j : Nat) : Value := if j = 4 then .int .i64 z else .int .u64 (lm N j : Nat)
theorem lkv_get (N : Nat) (z : Int) (j : Nat) (h : j < 5) : (lkC N z)[j]? = some (lkv N z j) := by
 match j, h with
 | 0, _ => rfl
 | 1, _ => rfl
 | 2, _ => rfl
 | 3, _ => rfl
 | 4, _ => rfl
def lksC (n : Nat) (N : Nat → Nat) (A : Nat → Int) : Array Value := Array.ofFn (n := 5 * n) fun i => lkv (N (i / 5)) (A (i / 5)) (i % 5)
theorem lksC_get (n : Nat) (N : Nat → Nat) (A : Nat → Int) (i : Nat) (h : i < 5 * n) : (lksC n N A)[i]? = some (lkv (N (i / 5)) (A (i / 5)) (i % 5)) := by simp [lksC, h]
theorem lks_links {w : World} {g n : Nat} {N : Nat → Nat} {A : Nat → Int} (h : Row w g (lksC n N A) 98) (hN : ∀ i, i < n → N i < 2 ^ 256) : LinksAt w (some ⟨g, 0, none⟩) n N A g 0 (lksC n N A) 98 :=
 ⟨.inr ⟨rfl, h.r, fun i hi j v hv => by
  rw [Array.getElem?_toList] at hv
  have hj : j < 5 := by
   have := (Array.getElem?_eq_some_iff.1 hv).1
   rw [lkC_size] at this
   exact this
  rw [lkv_get _ _ _ hj] at hv
  rw [lksC_get n N A _ (by omega), show (0 + i * 5 + j) / 5 = i by omega, show (0 + i * 5 + j) % 5 = j by omega]
  exact hv⟩, hN⟩
end Go.Proofs.YtgdalihjpemjiaaGreat
