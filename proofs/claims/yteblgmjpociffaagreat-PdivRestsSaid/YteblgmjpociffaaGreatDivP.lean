/- pdiv.Pseudo; Exact where it comes out even. -/
import Derived.Test.YteblgmjpociffaaGreatDivR
namespace Go.Proofs.YteblgmjpociffaaGreat.Sym
open Go.RowKit
section
variable {Φ : Nat → World → Value → Prop} {p x n m k : Nat} {z : Nat → Int} {L : List Int}
end
section
variable {Φ : Nat → World → Value → Prop} {p q x n l k : Nat} {z : Nat → Int} {L : List Int}
end
section
variable {T : Nat → Int} {c : Int} {i j : Nat}
end
section
variable {z y : Nat → Int} {n m i j p : Nat} {c : Int}
end
end Go.Proofs.YteblgmjpociffaaGreat.Sym
