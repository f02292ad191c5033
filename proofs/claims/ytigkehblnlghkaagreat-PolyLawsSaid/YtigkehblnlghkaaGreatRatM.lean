/- Ratio's greatest of three. -/
import Derived.Test.YtigkehblnlghkaaGreatSymQ
namespace Go.Proofs.YtigkehblnlghkaaGreat.Sym
open Go.RowKit
section
variable {Φ : Nat → World → Value → Prop}
theorem Arr.is {sz n : Nat} {F : Nat → World → Value → Prop} {w : World} {v : Value} (h : Arr sz F n w v) : (CSh.one .s).is v := by
  obtain ⟨p, c, rfl, _⟩ := h
  exact ⟨⟨_, _, _, rfl⟩, fun _ h => by cases h⟩
theorem sRCmpJ {p q x i j : Nat} {z y : Rat} {t : Int} (hp : ∀ w v, Φ p w v → RatV w v z i) (hq : ∀ w v, Φ q w v → RatV w v y j) (hx : Φ x = fun _ v => v = .int .i64 t) (hi : i + j ≤ 100000) (hr : cmpQ z y = t) : SiteOk Φ Tryz.prog ⟨130, [.fact p, .fact q], [⟨.one .i, [(0, 0, x)]⟩], false⟩ :=
  site2 fun _ _ _ _ h0 h1 => (RCmp_g (hp _ _ (get h0)) (hq _ _ (get h1)) t hi hr).mono fun _ _ h => pstJ hx h
end
end Go.Proofs.YtigkehblnlghkaaGreat.Sym
