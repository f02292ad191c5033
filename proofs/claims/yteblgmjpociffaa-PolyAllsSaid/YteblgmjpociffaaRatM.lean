/- Ratio's greatest of three. -/
import Derived.Test.YteblgmjpociffaaSymQ
namespace Go.Proofs.Yteblgmjpociffaa.Sym
open Go.RowKit
section
variable {Φ : Nat → World → Value → Prop}
theorem Arr.is {sz n : Nat} {F : Nat → World → Value → Prop} {w : World} {v : Value} (h : Arr sz F n w v) : (CSh.one .s).is v := by
  obtain ⟨p, c, rfl, _⟩ := h
  exact ⟨⟨_, _, _, rfl⟩, fun _ h => by cases h⟩
end
end Go.Proofs.Yteblgmjpociffaa.Sym
