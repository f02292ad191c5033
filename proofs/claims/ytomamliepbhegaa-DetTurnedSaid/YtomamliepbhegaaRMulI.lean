/- The reference's product of polynomials with whole coefficients. -/
import Derived.Test.YtomamliepbhegaaRMul
import Derived.Test.YtomamliepbhegaaPolH
namespace Go.Proofs.Ytomamliepbhegaa.Sym
open Go.RowKit
section
variable {Φ:PH}{p q x n m k l K kz ky:Nat}{z y:Nat->Int}{P:List Int}
end
end Go.Proofs.Ytomamliepbhegaa.Sym
