/- A whole number that came in: a sign and a slice of limbs. -/
import Derived.Test.YtmmmpdpgkjcohaaRowKit
import Derived.Test.YtmmmpdpgkjcohaaBy
import Derived.Lib.SmallJoins
namespace Go.Proofs.Ytmmmpdpgkjcohaa
open Go.ChangeShapes Go.WideShapes Go.ChangeAt Go.RowKit

section
variable {H : Type} {enc : TypeId × Value → H}
set_option maxRecDepth 100000 in
theorem int_of_trod {W : World} {base base' : Nat} {held : Bool} {v : Value} {d : DataW H} {ps : List MemPlace}
    (h : DataW.Trod enc Try.prog W base (fun _ => true) held 24 v d ps) (hv : Value.okWide Try.prog W .any base' 24 v) : ∃ b s xs, v = .agg #[.bool b, s] ∧ Sl W .u32 s xs ∧ All 4294967296 xs := by
  obtain ⟨v0, v1, y0, y1, n, rfl, -, -, h0, h1⟩ := Joins.open_agg2 Try.underlying24 (by kernel_rfl) (by kernel_rfl) hv h
  obtain ⟨b, e0, -⟩ := DataW.trod_bool Try.underlying4 h0
  obtain rfl : v0 = .bool b := by simpa using e0
  obtain ⟨xs, h2, h3⟩ := sl_of_row (W := W) Try.underlying22 Try.underlying65 (by kernel_rfl) h1
  exact ⟨b, v1, xs, rfl, h2, h3⟩
end

end Go.Proofs.Ytmmmpdpgkjcohaa
