/- Values of polynomials: of Horner's sums, of products, of those that are moved. -/
import Derived.Test.YteblgmjpociffaaGreatPolH
import Derived.Test.YteblgmjpociffaaGreatPolZ
namespace Go.Proofs.YteblgmjpociffaaGreat.Sym
open Go.RowKit
def ev (x : Rat) : Nat -> (Nat -> Int) -> Rat
 | 0, _ => 0
 | m + 1, z => (z 0 : Rat) + x * ev x m (fun i => z (i + 1))
def hV (u d : Int) : Nat -> (Nat -> Int) -> Int
 | 0, _ => 0
 | m + 1, z => z 0 * d ^ m + u * hV u d m (fun i => z (i + 1))
end Go.Proofs.YteblgmjpociffaaGreat.Sym
