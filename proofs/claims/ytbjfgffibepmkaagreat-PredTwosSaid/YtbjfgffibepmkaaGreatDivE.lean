/- pdiv.Pseudo -/
import Derived.Test.YtbjfgffibepmkaaGreatDivC
namespace Go.Proofs.YtbjfgffibepmkaaGreat.Sym
open Go.RowKit
section
variable {Φ:PH}{p x n m k:Nat}{z:Nat->Int}{L:List Int}
end
section
variable {Φ:PH}{p q x n l k:Nat}{z:Nat->Int}{L:List Int}
end
section
variable {T:Nat->Int}{c:Int}{i j:Nat}
end
section
variable {z y:Nat->Int}{n m i j p:Nat}{c:Int}
end
end Go.Proofs.YtbjfgffibepmkaaGreat.Sym
