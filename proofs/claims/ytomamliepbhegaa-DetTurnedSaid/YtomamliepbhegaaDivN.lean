/- The reference's at, Add, Neg, Sub over the rationals. The reference's cut told with the row's block; Add and Sub, whose results lie in new memory. -/
import Derived.Test.YtomamliepbhegaaDivX
import Derived.Test.YtomamliepbhegaaDivT
namespace Go.Proofs.Ytomamliepbhegaa.Sym
open Go.RowKit
section
variable {Φ:PH}{p x y n i k:Nat}{q:Nat->Rat}
end
section
variable {Φ:PH}{p x y n m k l K N:Nat}{q r s:Nat->Rat}
end
section
variable {Φ:PH}{p x y n m k l K N:Nat}{q r:Nat->Rat}
end
section
variable {Φ:PH}{p x n k:Nat}{q:Nat->Rat}
end
section
variable {Φ:PH}{p x y n m k l K N j:Nat}{J:List Nat}{q r s:Nat->Rat}
end
section
variable {Φ:PH}{p x y n m k l K N j:Nat}{J:List Nat}{q r:Nat->Rat}
end
end Go.Proofs.Ytomamliepbhegaa.Sym
