/- Zero and Sign of normal numbers. -/
import Derived.Test.YtmmmpdpgkjcohaaBx
namespace Go.Proofs.Ytmmmpdpgkjcohaa
open Go.RowKit

theorem Sign_z {v : Value} {z : Int} {w : World} (r : Int) (h : NorI w v z) (hr : cmpI z 0 = r) : Calls Try.prog 43 #[v] w fun e w' => e = .returned (.int .i64 r) ∧ w.grownBy w' none := by
  subst hr
  obtain ⟨p, cap, rfl, -⟩ := h
  refine Sign_i.mono fun e w' he => ?_
  obtain ⟨rfl, g⟩ := he
  refine ⟨?_, g⟩
  have hl := dig_len_zero (b := 4294967296) (by omega) (n := z.natAbs)
  congr 2
  unfold cmpI
  by_cases h0 : z = 0
  · rw [if_pos (by omega), if_neg (by omega), if_pos h0]
  · rw [if_neg (by omega)]
    by_cases h1 : z < 0
    · rw [if_pos h1, if_pos (by simpa using h1)]
    · rw [if_neg h1, if_neg (by simpa using h1), if_neg h0]
theorem Zero_z {v : Value} {z : Int} {w : World} (r : Bool) (h : NorI w v z) (hr : decide (z = 0) = r) : Calls Try.prog 41 #[v] w fun e w' => e = .returned (.bool r) ∧ w.grownBy w' none := by
  subst hr
  obtain ⟨p, cap, rfl, -⟩ := h
  refine Zero_i.mono fun e w' he => ?_
  obtain ⟨rfl, g⟩ := he
  refine ⟨?_, g⟩
  have hl := dig_len_zero (b := 4294967296) (by omega) (n := z.natAbs)
  congr 2
  exact decide_eq_decide.2 ⟨fun h => by omega, fun h => by omega⟩
theorem Zero_nil {w : World} : Calls Try.prog 41 #[.agg #[.bool false, .slice none 0 0]] w fun e w' => e = .returned (.bool true) ∧ w.grownBy w' none :=
  Zero_i.mono fun _ _ h => h
theorem cmpI_bd (z y : Int) : -1 ≤ cmpI z y ∧ cmpI z y ≤ 1 := by
  unfold cmpI
  split
  · omega
  · split <;> omega
theorem cmpI_swap (z y : Int) : cmpI y z = -cmpI z y := by
  unfold cmpI
  split <;> split <;> (try split) <;> (try split) <;> omega

end Go.Proofs.Ytmmmpdpgkjcohaa
