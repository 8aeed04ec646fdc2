import Derived.Test.YtfhgdgnhcmakhaaGreatUD
namespace Go.Proofs.YtfhgdgnhcmakhaaGreat
set_option linter.unusedSectionVars false
section
variable {q : Nat} [NeZero q]
theorem pmul_co (f g : List (Fin q)) (k : Nat) : pco (pmul f g) k = psm (fun i => pco f i * pco g (k - i)) (k + 1) := by
 rw [pco_pmul, pco_pcv]
 have h1 : psm (fun i => if i ≤ k then pco f i * pco g (k - i) else 0) (max f.length (k + 1)) = psm (fun i => if i ≤ k then pco f i * pco g (k - i) else 0) f.length := psm_more _ _ _ (by omega) fun i hi _ => by
  show (if i ≤ k then _ else _) = (0 : Fin q)
  split
  ·rw [pco_out f i hi]; grind
  ·rfl
 have h2 : psm (fun i => if i ≤ k then pco f i * pco g (k - i) else 0) (max f.length (k + 1)) = psm (fun i => if i ≤ k then pco f i * pco g (k - i) else 0) (k + 1) := psm_more _ _ _ (by omega) fun i hi _ => by
  show (if i ≤ k then _ else _) = (0 : Fin q)
  exact if_neg (by omega)
 rw [← h1, h2]
 exact psm_congr _ _ _ fun i hi => by
  show (if i ≤ k then _ else _) = _
  rw [if_pos (by omega)]
theorem plg_lin (iv : Fin q → Fin q) (xs : Nat → Fin q) (y : Fin q) (i : Nat) : ∀ k j, pco (plg iv xs y i k) j = y * pco (plg iv xs 1 i k) j
 | 0, 0 => by
  show y = y * 1
  grind
 | 0, j + 1 => by
  show (0 : Fin q) = y * 0
  grind
 | k + 1, j => by
  show pco (if k = i then plg iv xs y i k else pmul (plg iv xs y i k) _) j = y * pco (if k = i then plg iv xs 1 i k else pmul (plg iv xs 1 i k) _) j
  by_cases h : k = i
  ·rw [if_pos h, if_pos h]
   exact plg_lin iv xs y i k j
  ·rw [if_neg h, if_neg h, pmul_co, pmul_co, ← psm_mul]
   exact psm_congr _ _ _ fun a _ => by
    show pco (plg iv xs y i k) a * _ = y * (pco (plg iv xs 1 i k) a * _)
    rw [plg_lin iv xs y i k a]
    grind
theorem pthr_co (iv : Fin q → Fin q) (xs ys : Nat → Fin q) (n j : Nat) : ∀ m, pco (pthr iv xs ys n m) j = psm (fun i => ys i * pco (plg iv xs 1 i n) j) m
 | 0 => rfl
 | m + 1 => by
  show pco (psum _ _) j = psm _ m + ys m * _
  rw [pco_psum, pthr_co iv xs ys n j m, plg_lin]
end
end Go.Proofs.YtfhgdgnhcmakhaaGreat
