/- Division of polynomials: what is left behind each step. -/
import Derived.Test.YtomamliepbhegaaPolH
namespace Go.Proofs.Ytomamliepbhegaa.Sym
open Go.RowKit
section
variable {A z y:Nat->Int}{c pw:Int}{n m i j k p:Nat}
end
end Go.Proofs.Ytomamliepbhegaa.Sym
