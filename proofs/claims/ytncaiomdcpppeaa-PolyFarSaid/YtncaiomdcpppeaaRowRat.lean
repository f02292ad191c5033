/- A rational that came in; the variables that a row of layer 4 lists. -/
import Derived.Test.YtncaiomdcpppeaaRowKit
import Derived.Test.YtncaiomdcpppeaaRefV
import Derived.Lib.SmallJoins
import Derived.Lay
import Derived.MakeChecks
import Derived.Stop.Joined
import Derived.SevenTiedAt
namespace Go.Proofs.Ytncaiomdcpppeaa
open Go.ChangeShapes Go.WideShapes Go.ChangeAt Go.RowKit

theorem Try.cells24 : Try.prog.cellsOf 36 = 2 := by kernel_rfl
theorem Try.cells46 : Try.prog.cellsOf 73 = 4 := by kernel_rfl
theorem Try.cells4 : Try.prog.cellsOf 4 = 1 := by kernel_rfl
theorem Try.cells22 : Try.prog.cellsOf 34 = 1 := by kernel_rfl
section
variable {H : Type} {enc : TypeId × Value → H}
set_option maxRecDepth 100000 in
theorem int_of_cells {W : World} {base : Nat} {held : Bool} {x y : Value} {fuel : Nat} {z : DataW H × List MemPlace}
    (h : DataW.trod enc Try.prog W base (fun _ => true) held fuel 36 [x, y] = some z) : ∃ b xs, x = .bool b ∧ Sl W .u32 y xs ∧ All 4294967296 xs := by
  obtain ⟨y0, y1, n, -, -, h0, h1⟩ := trod_struct2 Try.underlying36 h
  simp only [Try.cells4, Try.cells22, List.drop_zero, List.take_succ_cons, List.take_zero, List.drop_succ_cons] at h0 h1
  obtain ⟨b, e0, -⟩ := DataW.trod_bool Try.underlying4 h0
  obtain rfl : x = .bool b := by simpa using e0
  obtain ⟨xs, h2, h3⟩ := sl_of_row (W := W) Try.underlying34 Try.underlying83 (by kernel_rfl) h1
  exact ⟨b, xs, rfl, h2, h3⟩
set_option maxRecDepth 100000 in
theorem rat_of_trod {W : World} {base base' : Nat} {held : Bool} {v : Value} {d : DataW H} {ps : List MemPlace}
    (h : DataW.Trod enc Try.prog W base (fun _ => true) held 73 v d ps) (hv : Value.okWide Try.prog W .any base' 73 v) : ∃ b s b' s' xs ys, v = .agg #[.bool b, s, .bool b', s'] ∧ Sl W .u32 s xs ∧ All 4294967296 xs ∧ Sl W .u32 s' ys ∧ All 4294967296 ys := by
  obtain ⟨cs, rfl, hsz⟩ := okWide_struct Try.underlying73 hv
  obtain ⟨c0, c1, c2, c3, rfl⟩ := Joins.array4 (hsz.trans Try.cells46)
  obtain ⟨fuel, hf⟩ := h
  obtain ⟨y0, y1, n, -, -, h0, h1⟩ := trod_struct2 Try.underlying73 hf
  simp only [Try.cells24, Value.cells, List.drop_zero, List.take_succ_cons, List.take_zero, List.drop_succ_cons] at h0 h1
  obtain ⟨b, xs, rfl, h2, h3⟩ := int_of_cells h0
  obtain ⟨b', ys, rfl, h4, h5⟩ := int_of_cells h1
  exact ⟨b, c1, b', c3, xs, ys, rfl, h2, h3, h4, h5⟩
end

theorem RInt_z {v : Value} {z : Int} {t : Rat} {i : Nat} {w : World} (hz : IntV w v z i) (hk : i ≤ 200000) (ht : (z : Rat) = t) : Calls Try.prog 48 #[v] w (GotQ w t (i + 2)) := ht ▸ RInt_g hz hk
theorem cmpQ_eq {q r : Rat} (h : q = r) : cmpQ q r = 0 := by subst h; rw [cmpQ, if_neg Rat.lt_irrefl, if_pos rfl]
theorem cmpQ_lt {q r : Rat} (h : q < r) : cmpQ q r = -1 := by rw [cmpQ, if_pos h]
theorem cmpQ_gt {q r : Rat} (h : r < q) : cmpQ q r = 1 := by rw [cmpQ, if_neg (by grind), if_neg (by grind)]
theorem cmpQ_le {q r : Rat} (h : q ≤ r) : cmpQ q r ≤ 0 := by unfold cmpQ; split <;> (try split) <;> first | omega | grind
theorem cmpQ_congr {q r s t : Rat} (h1 : q < r ↔ s < t) (h2 : q = r ↔ s = t) : cmpQ q r = cmpQ s t := by unfold cmpQ; simp only [h1, h2]
theorem cmpQ_mid (q r : Rat) : cmpQ q ((q + r) / 2) = cmpQ q r := cmpQ_congr (by constructor <;> intro h <;> grind) (by constructor <;> intro h <;> grind)
theorem cmpQ_mid' (q r : Rat) : cmpQ ((q + r) / 2) r = cmpQ q r := cmpQ_congr (by constructor <;> intro h <;> grind) (by constructor <;> intro h <;> grind)
theorem cmpQ_bd (q r : Rat) : -1 ≤ cmpQ q r ∧ cmpQ q r ≤ 1 := by unfold cmpQ; split <;> (try split) <;> omega
theorem cmpQ_swap (q r : Rat) : cmpQ r q = -cmpQ q r := by unfold cmpQ; split <;> split <;> (try split) <;> (try split) <;> first | omega | grind

end Go.Proofs.Ytncaiomdcpppeaa
