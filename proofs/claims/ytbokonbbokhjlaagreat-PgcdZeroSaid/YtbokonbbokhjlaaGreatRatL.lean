/- Ratio's greatest and sum of any number: their loops by what holds at each round's head. -/
import Derived.Test.YtbokonbbokhjlaaGreatRatM
namespace Go.Proofs.YtbokonbbokhjlaaGreat.Sym
open Go.RowKit
section
variable (z y:Int) (ez ey:Nat->Int)
end
section
variable {Φ:PH}{p q x x1 x2 n K:Nat}{z y:Int}{ez ey:Nat->Int}{t:Rat}
end
end Go.Proofs.YtbokonbbokhjlaaGreat.Sym
