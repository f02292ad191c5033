/- What stands at the end of each statement of layer 1: the document's two examples. -/
import Derived.Test.YtkebkdmdhhpinaaKeepA
namespace Go.Proofs.Ytkebkdmdhhpinaa
open Go.RowKit

/-- A literal of one number. -/
theorem Own.one (w : World) (k : IntKind) (e : TypeId) (x : Nat) : Own (w.alloc (.cells #[.int k x] e)) e k w.heap.size (.slice (some ⟨w.heap.size, 0, none⟩) 1 1) [x] := by
  refine .inr ⟨w.heap.size, 1, fun _ => .int k x, rfl, Nat.le_refl _, ?_, Nat.le_refl _, by omega, fun j hj => ?_⟩
  · exact RowF.made w #[.int k x] e _ (fun j hj => by
      have : j = 0 := by simpa using hj
      subst this; rfl)
  · have : j = 0 := by simpa using hj
    subst this; rfl

/-- What a bool function that makes memory hands back. -/
def Bool_ (w : World) (b : Bool) (en : Ending) (w' : World) : Prop := en = .returned (.bool b) ∧ w.grownBy w' none

set_option maxHeartbeats 1000000 in
theorem wakes_true (w : World) : Calls Try.prog 26 #[] w (Bool_ w true) := by
  go_enter Try.func26, Try.ntmps26
  go_wp2_with fail
  refine (Sub_any (xs := []) (ys := [1]) (Sl.nil _ _) (show Sl (w.alloc (.cells #[.int .u32 1] 52)) .u32 (.slice (some ⟨w.heap.size, 0, none⟩) 1 1) [1] from (Own.one w .u32 52 1).sl) (All.nil _) (All.cons (by omega) (All.nil _)) (by simp)).mono ?_
  rintro e w1 hs
  rcases hs with ⟨-, rfl, g1⟩ | ⟨h, -⟩
  · have G1 := Lib.hid (grown_trans (grown_alloc w _ none) g1)
    clear g1
    go_wp2_with fail
    have o7 := Own.one w1 .u32 52 7
    have s7 : Sl ((w1.alloc (.cells #[.int .u32 7] 52)).alloc (.cells #[.int .u32 2] 52)) .u32 (.slice (some ⟨w1.heap.size, 0, none⟩) 1 1) [7] := o7.sl.grown (grown_alloc _ _ none) (.inl rfl)
    have s2 : Sl ((w1.alloc (.cells #[.int .u32 7] 52)).alloc (.cells #[.int .u32 2] 52)) .u32 (.slice (some ⟨w1.heap.size + 1, 0, none⟩) 1 1) [2] := by
      have := (Own.one (w1.alloc (.cells #[.int .u32 7] 52)) .u32 52 2).sl
      simpa using this
    refine (DivMod_short (xs := [7]) (ys := [2]) (a := [7]) (d := 2) s7 s2 (by decide) (by decide) (by simp) (All.cons (by omega) (All.nil _)) (All.cons (by omega) (All.nil _)) (by simp)).mono ?_
    rintro e w2 hd
    rcases hd with ⟨h, -⟩ | ⟨-, v, u, rfl, hv, hu, -, g2⟩
    · cases h
    have G2 := Lib.hid (grown_trans (grown_trans (grown_alloc w1 (.cells #[.int .u32 7] 52) none) (grown_alloc _ (.cells #[.int .u32 2] 52) none)) g2)
    have Hv := Lib.hid (show Sl w2 .u32 v [3] from hv.sl)
    have Hu := Lib.hid (show Sl w2 .u32 u [1] from hu.sl)
    clear o7 s7 s2 hv hu g2
    go_wp2_with fail
    refine (Same_b (Hv.out.grown (grown_alloc _ _ none) (.inl rfl)) (show Sl (w2.alloc (.cells #[.int .u32 3] 52)) .u32 (.slice (some ⟨w2.heap.size, 0, none⟩) 1 1) [3] from (Own.one w2 .u32 52 3).sl)).mono ?_
    rintro e w3 ⟨rfl, g3⟩
    rw [eqB_self]
    have G3 := Lib.hid (grown_trans (grown_alloc w2 _ none) g3)
    clear g3
    go_wp2_with fail
    refine (Same_b (Hu.out.grown (grown_trans G3.out (grown_alloc _ _ none)) (.inl rfl)) (show Sl (w3.alloc (.cells #[.int .u32 1] 52)) .u32 (.slice (some ⟨w3.heap.size, 0, none⟩) 1 1) [1] from (Own.one w3 .u32 52 1).sl)).mono ?_
    rintro e w4 ⟨rfl, g4⟩
    rw [eqB_self]
    have G4 := Lib.hid (grown_trans (grown_trans (grown_trans (grown_trans G1.out G2.out) G3.out) (grown_alloc w3 _ none)) g4)
    clear g4
    go_wp2_with fail
    go_ret
    exact ⟨rfl, G4.out⟩
  · simp [val] at h

end Go.Proofs.Ytkebkdmdhhpinaa
