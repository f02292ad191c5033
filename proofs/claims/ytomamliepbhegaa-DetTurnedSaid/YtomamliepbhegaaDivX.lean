/- The reference's Scale, To, Primitive (whole coefficients). -/
import Derived.Test.YtomamliepbhegaaDivC
import Derived.Test.YtomamliepbhegaaPolX
import Derived.Test.YtomamliepbhegaaRatL
namespace Go.Proofs.Ytomamliepbhegaa.Sym
open Go.RowKit
section
variable {Φ:PH}{p x:Nat}
end
section
variable {Φ:PH}{p y x n k l K N:Nat}{q:Nat->Rat}{c:Rat}{z:Nat->Int}
end
section
variable {Φ:PH}{p q y x x1 x2 n m k l K N:Nat}{c:Int}{z:Nat->Int}{a:Bool}{xs:List Nat}
theorem mS {f:Nat->Int}:∀{n:Nat},(0<n->f (n-1)≠0)->tl f n=n
 | 0,_=>rfl
 | n+1,h=>by
  unfold tl
  rw [if_neg (show ¬f n=0 from h (by omega))]
end
end Go.Proofs.Ytomamliepbhegaa.Sym
