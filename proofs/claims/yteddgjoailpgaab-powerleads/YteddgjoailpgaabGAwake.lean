/- What must come, whatever the arguments are: the check of the laws of layer 7. -/
import Derived.Test.YteddgjoailpgaabGW
import Derived.Test.YteddgjoailpgaabGV
namespace Go.Proofs.Yteddgjoailpgaab
open Go.RowKit
theorem links_none (w : World) : LinksAt w none 0 (fun _ => 0) (fun _ => 0) 0 0 #[] 0 := ⟨.inl rfl, fun i hi => absurd hi (Nat.not_lt_zero i)⟩
theorem gr_none (G : Nat) : grN 0 (fun _ => 0) (fun _ => 0) G = false := rfl
theorem le_size : sizeZ 1966023127 = 3 := by decide +kernel
theorem le_p : lN leL (3 - 1) = 1055500680322183127 := rfl
theorem le_q : lN leL (3 - 2) = 1966023127 := rfl
theorem eqn_yes (X : Nat) : decide (X % 2 ^ 256 = X % 2 ^ 256) = true := decide_eq_true rfl
end Go.Proofs.Yteddgjoailpgaab
