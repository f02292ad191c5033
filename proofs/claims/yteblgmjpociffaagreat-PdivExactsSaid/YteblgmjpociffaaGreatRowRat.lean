/- A rational that came in; the variables that a row of layer 4 lists. -/
import Derived.Test.YteblgmjpociffaaGreatRowKit
import Derived.Test.YteblgmjpociffaaGreatRefV
import Derived.Lib.SmallJoins
import Derived.Lay
import Derived.MakeChecks
import Derived.Stop.Joined
import Derived.SevenTiedAt
namespace Go.Proofs.YteblgmjpociffaaGreat
open Go.ChangeShapes Go.WideShapes Go.ChangeAt Go.RowKit
theorem Tryz.cells24 : Tryz.prog.cellsOf 26 = 2 := by kernel_rfl
theorem Tryz.cells4 : Tryz.prog.cellsOf 4 = 1 := by kernel_rfl
theorem Tryz.cells22 : Tryz.prog.cellsOf 24 = 1 := by kernel_rfl
section
variable {H : Type} {enc : TypeId × Value -> H}
set_option maxRecDepth 100000 in
theorem int_of_cells {W : World} {base : Nat} {held : Bool} {x y : Value} {fuel : Nat} {z : DataW H × List MemPlace}
  (h : DataW.trod enc Tryz.prog W base (fun _ => true) held fuel 26 [x, y] = some z) : ∃ b xs, x = .bool b ∧ Sl W .u32 y xs ∧ All 4294967296 xs := by
 obtain ⟨y0, y1, n, -, -, h0, h1⟩ := trod_struct2 Tryz.underlying26 h
 simp only [Tryz.cells4, Tryz.cells22, List.drop_zero, List.take_succ_cons, List.take_zero, List.drop_succ_cons] at h0 h1
 obtain ⟨b, e0, -⟩ := DataW.trod_bool Tryz.underlying4 h0
 obtain rfl : x = .bool b := by simpa using e0
 obtain ⟨xs, h2, h3⟩ := sl_of_row (W := W) Tryz.underlying24 Tryz.underlying111 (by kernel_rfl) h1
 exact ⟨b, xs, rfl, h2, h3⟩
end
end Go.Proofs.YteblgmjpociffaaGreat
