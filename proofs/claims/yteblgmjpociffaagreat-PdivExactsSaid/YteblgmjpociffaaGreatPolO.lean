/- Numbers told by facts as arguments of Of, Pow, ratio.Of and Within; a row of two numbers; sizes of what is moved. -/
import Derived.Test.YteblgmjpociffaaGreatPolM
import Derived.Test.YteblgmjpociffaaGreatPolS
import Derived.Test.YteblgmjpociffaaGreatPolL
import Derived.Test.YteblgmjpociffaaGreatPolN
import Derived.Test.YteblgmjpociffaaGreatPows
namespace Go.Proofs.YteblgmjpociffaaGreat.Sym
open Go.RowKit
def z2 (a b : Int) : Nat -> Int
 | 0 => a
 | _ => b
section
variable {Φ : Nat -> World -> Value -> Prop} {p q x x1 x2 j i K : Nat} {a b t z y m : Int}
end
theorem bd_zero (k : Nat) : Bd (0 : Int).natAbs k := Nat.pow_pos (by omega)
end Go.Proofs.YteblgmjpociffaaGreat.Sym
