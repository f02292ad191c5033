/- poly.value, Sign, Ends. -/
import Derived.Test.YteblgmjpociffaaPolY
import Derived.Test.YteblgmjpociffaaRatL
namespace Go.Proofs.Yteblgmjpociffaa.Sym
open Go.RowKit
section
variable {P : Program} {Φ : Nat → World → Value → Prop} {p q x y : Nat}
end
/-- Horner's sums: numerators. -/
def hN (z : Nat → Int) (m : Nat) (u d : Int) : Nat → Int
  | 0 => if m = 0 then 0 else z (m - 1)
  | j + 1 => hN z m u d j * u + z (m - 2 - j) * d ^ (j + 1)
section
variable {Φ : Nat → World → Value → Prop} {p q x x1 x2 n n0 K m k i N : Nat} {z : Nat → Int}
end
section
variable {Φ : Nat → World → Value → Prop} {p r x y n k kt kn : Nat} {z : Nat → Int} {q : Rat} {t t' : Int}
end
section
variable {Φ : Nat → World → Value → Prop} {p r x y n k kt kn : Nat} {z : Nat → Int} {q : Rat} {t t' : Int}
end
end Go.Proofs.Yteblgmjpociffaa.Sym
