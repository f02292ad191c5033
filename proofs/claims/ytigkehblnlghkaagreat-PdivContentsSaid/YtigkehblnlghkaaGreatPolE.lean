/- poly.each and both (Norm, Neg, Add, Sub), Mul. -/
import Derived.Test.YtigkehblnlghkaaGreatPolX
namespace Go.Proofs.YtigkehblnlghkaaGreat.Sym
open Go.RowKit
theorem sSub5 {Φ : Nat → World → Value → Prop} {p q x i j : Nat} {z y t : Int} (hp : ∀ w v, Φ p w v → IntV w v z i) (hq : ∀ w v, Φ q w v → IntV w v y j) (hx : Φ x = fun w v => NorV w v t (i + j + 1)) (hi : i + j ≤ 1000000) (ht : z - y = t) : SiteOk Φ Tryz.prog ⟨60, [.fact p, .fact q], [⟨iS, [(0, 0, x)]⟩], false⟩ :=
  site2 fun _ _ _ _ h0 h1 => ((Sub_i (hp _ _ (get h0)) (hq _ _ (get h1)) hi).mono fun _ _ h => h.got).mono fun _ _ h => pstI (ht ▸ hx) h
section
variable {Φ : Nat → World → Value → Prop} {p q x n m k l : Nat} {z y : Nat → Int} {L : List Int}
end
section
variable {z y : Nat → Int} {l j i p : Nat}
end
end Go.Proofs.YtigkehblnlghkaaGreat.Sym
