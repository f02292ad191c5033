/- Products of polynomials as sums of products: they ask for no order, nor for brackets. -/
import Derived.Test.YtigkehblnlghkaaGreatPolE
namespace Go.Proofs.YtigkehblnlghkaaGreat.Sym
open Go.RowKit
def conv (f g : Nat → Int) : Nat → Int
  | 0 => f 0 * g 0
  | p + 1 => f 0 * g (p + 1) + conv (fun x => f (x + 1)) g p
theorem Bd.add1' {A B i : Nat} (h : Bd A i) (k : Bd B i) : Bd (A + B) (i + 1) := by
  unfold Bd at *
  rw [Nat.pow_succ]
  generalize 4294967296 ^ i = M at *
  omega
end Go.Proofs.YtigkehblnlghkaaGreat.Sym
