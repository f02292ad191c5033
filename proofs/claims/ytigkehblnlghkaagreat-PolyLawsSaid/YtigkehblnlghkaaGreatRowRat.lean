/- A rational that came in; the variables that a row of layer 4 lists. -/
import Derived.Test.YtigkehblnlghkaaGreatRowKit
import Derived.Test.YtigkehblnlghkaaGreatRefV
import Derived.Lib.SmallJoins
import Derived.Lay
import Derived.MakeChecks
import Derived.Stop.Joined
import Derived.SevenTiedAt
namespace Go.Proofs.YtigkehblnlghkaaGreat
open Go.ChangeShapes Go.WideShapes Go.ChangeAt Go.RowKit

theorem Tryz.cells24 : Tryz.prog.cellsOf 26 = 2 := by kernel_rfl
theorem Tryz.cells46 : Tryz.prog.cellsOf 28 = 4 := by kernel_rfl
theorem Tryz.cells4 : Tryz.prog.cellsOf 4 = 1 := by kernel_rfl
theorem Tryz.cells22 : Tryz.prog.cellsOf 24 = 1 := by kernel_rfl
section
variable {H : Type} {enc : TypeId × Value → H}
set_option maxRecDepth 100000 in
theorem int_of_cells {W : World} {base : Nat} {held : Bool} {x y : Value} {fuel : Nat} {z : DataW H × List MemPlace}
    (h : DataW.trod enc Tryz.prog W base (fun _ => true) held fuel 26 [x, y] = some z) : ∃ b xs, x = .bool b ∧ Sl W .u32 y xs ∧ All 4294967296 xs := by
  obtain ⟨y0, y1, n, -, -, h0, h1⟩ := trod_struct2 Tryz.underlying26 h
  simp only [Tryz.cells4, Tryz.cells22, List.drop_zero, List.take_succ_cons, List.take_zero, List.drop_succ_cons] at h0 h1
  obtain ⟨b, e0, -⟩ := DataW.trod_bool Tryz.underlying4 h0
  obtain rfl : x = .bool b := by simpa using e0
  obtain ⟨xs, h2, h3⟩ := sl_of_row (W := W) Tryz.underlying24 Tryz.underlying111 (by kernel_rfl) h1
  exact ⟨b, xs, rfl, h2, h3⟩
set_option maxRecDepth 100000 in
theorem rat_of_trod {W : World} {base base' : Nat} {held : Bool} {v : Value} {d : DataW H} {ps : List MemPlace}
    (h : DataW.Trod enc Tryz.prog W base (fun _ => true) held 28 v d ps) (hv : Value.okWide Tryz.prog W .any base' 28 v) : ∃ b s b' s' xs ys, v = .agg #[.bool b, s, .bool b', s'] ∧ Sl W .u32 s xs ∧ All 4294967296 xs ∧ Sl W .u32 s' ys ∧ All 4294967296 ys := by
  obtain ⟨cs, rfl, hsz⟩ := okWide_struct Tryz.underlying28 hv
  obtain ⟨c0, c1, c2, c3, rfl⟩ := Joins.array4 (hsz.trans Tryz.cells46)
  obtain ⟨fuel, hf⟩ := h
  obtain ⟨y0, y1, n, -, -, h0, h1⟩ := trod_struct2 Tryz.underlying28 hf
  simp only [Tryz.cells24, Value.cells, List.drop_zero, List.take_succ_cons, List.take_zero, List.drop_succ_cons] at h0 h1
  obtain ⟨b, xs, rfl, h2, h3⟩ := int_of_cells h0
  obtain ⟨b', ys, rfl, h4, h5⟩ := int_of_cells h1
  exact ⟨b, c1, b', c3, xs, ys, rfl, h2, h3, h4, h5⟩
end
end Go.Proofs.YtigkehblnlghkaaGreat
