/- Values of polynomials: of Horner's sums, of products, of those that are moved. -/
import Derived.Test.YteblgmjpociffaaPolH
import Derived.Test.YteblgmjpociffaaPolZ
namespace Go.Proofs.Yteblgmjpociffaa.Sym
open Go.RowKit
/-- The value of a polynomial. -/
def ev (x : Rat) : Nat → (Nat → Int) → Rat
  | 0, _ => 0
  | m + 1, z => (z 0 : Rat) + x * ev x m (fun i => z (i + 1))
/-- The same, with the denominators cleared. -/
def hV (u d : Int) : Nat → (Nat → Int) → Int
  | 0, _ => 0
  | m + 1, z => z 0 * d ^ m + u * hV u d m (fun i => z (i + 1))
end Go.Proofs.Yteblgmjpociffaa.Sym
