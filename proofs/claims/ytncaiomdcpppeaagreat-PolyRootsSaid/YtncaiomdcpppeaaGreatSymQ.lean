/- Contracts of chapter 4 and of the reference's rationals as calls of the symbolic walk. -/
import Derived.Test.YtncaiomdcpppeaaGreatRefV
import Derived.Test.YtncaiomdcpppeaaGreatRowRat
namespace Go.Proofs.YtncaiomdcpppeaaGreat.Sym
open Go.RowKit
section
variable {Φ : Nat → World → Value → Prop}
theorem sRInt {p x x1 x2 i : Nat} {z : Int} {t : Rat} (hp : ∀ w v, Φ p w v → IntV w v z i) (hx : Φ x = fun w v => NorQ w v t (i + 2)) (hx1 : Φ x1 = fun w v => NorV w v t.num (i + 2)) (hx2 : Φ x2 = fun w v => NorV w v (t.den : Int) (i + 2)) (hk : i ≤ 200000) (ht : (z : Rat) = t) : SiteOk Φ Tryz.prog ⟨43, [.fact p], [⟨qS, [(0, 0, x), (0, 2, x1), (2, 2, x2)]⟩], false⟩ :=
  site1 fun _ _ _ h0 => (RInt_z (hp _ _ (get h0)) hk ht).mono fun _ _ h => pstP hx hx1 hx2 h
theorem sRCmp {p q i j : Nat} {z : Rat} {y : Rat} {r : Int} (hp : ∀ w v, Φ p w v → RatV w v z i) (hq : ∀ w v, Φ q w v → RatV w v y j) (hk : i + j ≤ 100000) (hr : cmpQ z y = r) : SiteOk Φ Tryz.prog ⟨45, [.fact p, .fact q], [⟨.one (.lit (.ci .i64 r)), []⟩], false⟩ :=
  site2 fun _ _ _ _ h0 h1 => (RCmp_g (hp _ _ (get h0)) (hq _ _ (get h1)) r hk hr).mono fun _ _ h => pstZ h
theorem sRMul {p q x x1 x2 i j : Nat} {z : Rat} {y : Rat} {t : Rat} (hp : ∀ w v, Φ p w v → RatV w v z i) (hq : ∀ w v, Φ q w v → RatV w v y j) (hx : Φ x = fun w v => NorQ w v t (i + j + 4)) (hx1 : Φ x1 = fun w v => NorV w v t.num (i + j + 4)) (hx2 : Φ x2 = fun w v => NorV w v (t.den : Int) (i + j + 4)) (hk : i + j ≤ 100000) (ht : z * y = t) : SiteOk Φ Tryz.prog ⟨42, [.fact p, .fact q], [⟨qS, [(0, 0, x), (0, 2, x1), (2, 2, x2)]⟩], false⟩ :=
  site2 fun _ _ _ _ h0 h1 => (RMul_g (hp _ _ (get h0)) (hq _ _ (get h1)) hk ht).mono fun _ _ h => pstP hx hx1 hx2 h
end
end Go.Proofs.YtncaiomdcpppeaaGreat.Sym
