/- A literal of one number; what a bool function hands back. -/
import Derived.Test.YtmmmpdpgkjcohaaKeepA
namespace Go.Proofs.Ytmmmpdpgkjcohaa
open Go.RowKit

/-- A literal of one number. -/
theorem Own.one (w : World) (k : IntKind) (e : TypeId) (x : Nat) : Own (w.alloc (.cells #[.int k x] e)) e k w.heap.size (.slice (some ⟨w.heap.size, 0, none⟩) 1 1) [x] := by
  refine .inr ⟨w.heap.size, 1, fun _ => .int k x, rfl, Nat.le_refl _, ?_, Nat.le_refl _, by omega, fun j hj => ?_⟩
  · exact RowF.made w #[.int k x] e _ (fun j hj => by
      have : j = 0 := by simpa using hj
      subst this; rfl)
  · have : j = 0 := by simpa using hj
    subst this; rfl

/-- What a bool function that makes memory hands back. -/
def Bool_ (w : World) (b : Bool) (en : Ending) (w' : World) : Prop := en = .returned (.bool b) ∧ w.grownBy w' none

end Go.Proofs.Ytmmmpdpgkjcohaa
