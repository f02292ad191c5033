/- The reference's product of polynomials over the rationals. -/
import Derived.Test.YtomamliepbhegaaDivX
namespace Go.Proofs.Ytomamliepbhegaa.Sym
open Go.RowKit
section
variable {q r:Nat->Rat}{l j i p:Nat}
end
theorem Ga.kp {j K:Nat}{w w1:World}{v:Value}{i:Nat} (h:i<j->am w v 0 K) (g:Kp w w1):i<j->am w1 v 0 K:=fun hi=>am.kp (h hi) g
section
variable {Φ:PH}{p y x n m k l K N:Nat}{q r:Nat->Rat}{c:Rat}
end
end Go.Proofs.Ytomamliepbhegaa.Sym
