/- Cut; a polynomial that came in. -/
import Derived.Test.YtomamliepbhegaaPolX
import Derived.Test.YtomamliepbhegaaRatL
import Derived.Deep.Slices
namespace Go.Proofs.Ytomamliepbhegaa.Sym
open Go.RowKit Go.ChangeShapes Go.WideShapes Go.ChangeAt
section
variable {Φ:PH}{p x y n n0:Nat}{z:Nat->Int}
end
end Go.Proofs.Ytomamliepbhegaa.Sym
