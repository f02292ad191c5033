/- Numbers told by facts as arguments of Of, Pow, ratio.Of and Within; a row of two numbers; sizes of what is moved. -/
import Derived.Test.YteblgmjpociffaaPolM
import Derived.Test.YteblgmjpociffaaPolS
import Derived.Test.YteblgmjpociffaaPolL
import Derived.Test.YteblgmjpociffaaPolN
import Derived.Test.YteblgmjpociffaaPows
namespace Go.Proofs.Yteblgmjpociffaa.Sym
open Go.RowKit
def z2 (a b : Int) : Nat → Int
  | 0 => a
  | _ => b
section
variable {Φ : Nat → World → Value → Prop} {p q x x1 x2 j i K : Nat} {a b t z y m : Int}
end
theorem bd_zero (k : Nat) : Bd (0 : Int).natAbs k := Nat.pow_pos (by omega)
theorem mulL_bd {z y : Nat → Int} {n m k k' : Nat} (hz : ∀ i, i < n → Bd (z i).natAbs k) (hy : ∀ i, i < m → Bd (y i).natAbs k') (i : Nat) : Bd (coef (mulL z n y m) i).natAbs (k + k' + n) := by
  unfold mulL
  split
  · rw [coef_out (by simp)]; exact bd_zero _
  · rw [coef_mk]
    split
    · have h1 := tl_le z n
      have h2 := tl_le y m
      exact (cvS_bd (c := n) hz (fun i hi => hy i (by omega)) h1 h1 i).more (by omega)
    · exact bd_zero _
end Go.Proofs.Yteblgmjpociffaa.Sym
