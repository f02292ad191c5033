/- poly.each and both (Norm, Neg, Add, Sub), Mul. -/
import Derived.Test.YtigkehblnlghkaaPolX
namespace Go.Proofs.Ytigkehblnlghkaa.Sym
open Go.RowKit
/-- The numbers of a product behind j whole rounds; and behind i steps of the next one. -/
def cvS (z y : Nat → Int) (l : Nat) : Nat → Nat → Int
  | 0, _ => 0
  | j + 1, p => cvS z y l j p + (if j ≤ p ∧ p < j + l then z j * y (p - j) else 0)
def cvI (z y : Nat → Int) (l : Nat) (j i p : Nat) : Int := cvS z y l j p + (if j ≤ p ∧ p < j + i then z j * y (p - j) else 0)
section
variable {Φ : Nat → World → Value → Prop} {p q x n m k l : Nat} {z y : Nat → Int} {L : List Int}
end
section
variable {z y : Nat → Int} {l j i p : Nat}
end
end Go.Proofs.Ytigkehblnlghkaa.Sym
