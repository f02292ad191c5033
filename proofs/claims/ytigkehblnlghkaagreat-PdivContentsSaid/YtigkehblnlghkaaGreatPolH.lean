/- poly.Same; contracts of Norm, Neg, Add, Sub, Mul. -/
import Derived.Test.YtigkehblnlghkaaGreatPolG
namespace Go.Proofs.YtigkehblnlghkaaGreat.Sym
open Go.RowKit
section
variable {Φ : Nat → World → Value → Prop} {p q x n m k l c : Nat} {z y : Nat → Int} {L : List Int}
end
end Go.Proofs.YtigkehblnlghkaaGreat.Sym
