/- Contracts of chapter 4 and of the reference's rationals as calls of the symbolic walk. -/
import Derived.Test.YteblgmjpociffaaGreatRefV
import Derived.Test.YteblgmjpociffaaGreatRowRat
namespace Go.Proofs.YteblgmjpociffaaGreat.Sym
open Go.RowKit
section
variable {Φ : Nat -> World -> Value -> Prop}
theorem tQuoR {p q x x1 x2 i j : Nat} {z : Rat} {y : Rat} {t : Rat} (hp : ∀ w v, Φ p w v -> DecQ w v z i) (hq : ∀ w v, Φ q w v -> DecQ w v y j) (hx : Φ x = fun w v => DecQ w v t (2 * (i + j) + 2)) (hx1 : Φ x1 = fun w v => DecI w v t.num (2 * (i + j) + 2)) (hx2 : Φ x2 = fun w v => DecI w v (t.den : Int) (2 * (i + j) + 2)) (hk : i + j <= 50000) (h0' : y ≠ 0) (ht : z / y = t) : SiteOk Φ Tryz.prog ⟨87, [.fact p, .fact q], [⟨sS, [(0, 0, x), (0, 2, x1), (2, 2, x2)]⟩], false⟩ :=
 site2 fun _ _ _ _ h0 h1 => (QuoR_g (hp _ _ (get h0)) (hq _ _ (get h1)) hk h0' ht).mono fun _ _ h => pstS hx hx1 hx2 h
end
end Go.Proofs.YteblgmjpociffaaGreat.Sym
