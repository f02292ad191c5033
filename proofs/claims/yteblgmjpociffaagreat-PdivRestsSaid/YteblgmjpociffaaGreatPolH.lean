/- poly.each and both (Norm, Neg, Add, Sub), Mul. Products of polynomials as sums of products: they ask for no order, nor for brackets. poly.Same; contracts of Norm, Neg, Add, Sub, Mul. -/
import Derived.Test.YteblgmjpociffaaGreatPolX
namespace Go.Proofs.YteblgmjpociffaaGreat.Sym
open Go.RowKit
theorem sSub5 {Φ : Nat → World → Value → Prop} {p q x i j : Nat} {z y t : Int} (hp : ∀ w v, Φ p w v → IntV w v z i) (hq : ∀ w v, Φ q w v → IntV w v y j) (hx : Φ x = fun w v => NorV w v t (i + j + 1)) (hi : i + j ≤ 1000000) (ht : z - y = t) : SiteOk Φ Tryz.prog ⟨60, [.fact p, .fact q], [⟨iS, [(0, 0, x)]⟩], false⟩ :=
  site2 fun _ _ _ _ h0 h1 => ((Sub_i (hp _ _ (get h0)) (hq _ _ (get h1)) hi).mono fun _ _ h => h.got).mono fun _ _ h => pstI (ht ▸ hx) h
section
variable {Φ : Nat → World → Value → Prop} {p q x n m k l : Nat} {z y : Nat → Int} {L : List Int}
end
section
variable {z y : Nat → Int} {l j i p : Nat}
end
end Go.Proofs.YteblgmjpociffaaGreat.Sym

namespace Go.Proofs.YteblgmjpociffaaGreat.Sym
open Go.RowKit
def conv (f g : Nat → Int) : Nat → Int
  | 0 => f 0 * g 0
  | p + 1 => f 0 * g (p + 1) + conv (fun x => f (x + 1)) g p
theorem Bd.add1' {A B i : Nat} (h : Bd A i) (k : Bd B i) : Bd (A + B) (i + 1) := by
  unfold Bd at *
  rw [Nat.pow_succ]
  generalize 4294967296 ^ i = M at *
  omega
theorem tl_out {z : Nat → Int} {n i : Nat} (h : tl z n ≤ i) : upto n z i = 0 := by
  unfold upto
  split
  · rename_i hi
    exact tl_zero z n i h hi
  · rfl
end Go.Proofs.YteblgmjpociffaaGreat.Sym

namespace Go.Proofs.YteblgmjpociffaaGreat.Sym
open Go.RowKit
section
variable {Φ : Nat → World → Value → Prop} {p q x n m k l c : Nat} {z y : Nat → Int} {L : List Int}
end
end Go.Proofs.YteblgmjpociffaaGreat.Sym
