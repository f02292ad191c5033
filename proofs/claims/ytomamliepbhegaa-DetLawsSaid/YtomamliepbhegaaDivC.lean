/- pdiv.reduce. pdiv.Content, divided, Primitive, Rest. -/
import Derived.Test.YtomamliepbhegaaDivT
import Derived.Test.YtomamliepbhegaaDivA
import Derived.Test.YtomamliepbhegaaCatB
import Derived.Test.YtomamliepbhegaaPolD
namespace Go.Proofs.Ytomamliepbhegaa.Sym
open Go.RowKit
section
variable {z y:Nat->Int}{n m j k:Nat}{c:Int}
end
section
variable {Φ:PH}{p q x x' n m la l kp K j j2:Nat}{z y:Nat->Int}{c:Int}{L2:List Int}
end
section
variable {Φ:PH}{p q x n m k l j:Nat}{z:Nat->Int}{c:Int}{L:List Int}{zz:Nat->Nat->Int}{ln:Nat->Nat}
end
section
variable {f:Nat->Int}{c:Int}{i j:Nat}
end
section
variable {Φ:PH}{p q x n m k l j:Nat}{z:Nat->Int}{c:Int}{L:List Int}{zz:Nat->Nat->Int}{ln:Nat->Nat}
end
section
variable {Φ:PH}{p q x y n m k l j:Nat}{z:Nat->Int}{c:Int}{P:List Int}
end
end Go.Proofs.Ytomamliepbhegaa.Sym
