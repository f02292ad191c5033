/- A rational that came in; the variables that a row of layer 4 lists. -/
import Derived.Test.YteblgmjpociffaaRowKit
import Derived.Test.YteblgmjpociffaaRefV
import Derived.Lib.SmallJoins
import Derived.Lay
import Derived.MakeChecks
import Derived.Stop.Joined
import Derived.SevenTiedAt
namespace Go.Proofs.Yteblgmjpociffaa
open Go.ChangeShapes Go.WideShapes Go.ChangeAt Go.RowKit

theorem Try.cells24 : Try.prog.cellsOf 36 = 2 := by kernel_rfl
theorem Try.cells4 : Try.prog.cellsOf 4 = 1 := by kernel_rfl
theorem Try.cells22 : Try.prog.cellsOf 34 = 1 := by kernel_rfl
section
variable {H : Type} {enc : TypeId × Value → H}
set_option maxRecDepth 100000 in
theorem int_of_cells {W : World} {base : Nat} {held : Bool} {x y : Value} {fuel : Nat} {z : DataW H × List MemPlace}
    (h : DataW.trod enc Try.prog W base (fun _ => true) held fuel 36 [x, y] = some z) : ∃ b xs, x = .bool b ∧ Sl W .u32 y xs ∧ All 4294967296 xs := by
  obtain ⟨y0, y1, n, -, -, h0, h1⟩ := trod_struct2 Try.underlying36 h
  simp only [Try.cells4, Try.cells22, List.drop_zero, List.take_succ_cons, List.take_zero, List.drop_succ_cons] at h0 h1
  obtain ⟨b, e0, -⟩ := DataW.trod_bool Try.underlying4 h0
  obtain rfl : x = .bool b := by simpa using e0
  obtain ⟨xs, h2, h3⟩ := sl_of_row (W := W) Try.underlying34 Try.underlying73 (by kernel_rfl) h1
  exact ⟨b, xs, rfl, h2, h3⟩
end
end Go.Proofs.Yteblgmjpociffaa
