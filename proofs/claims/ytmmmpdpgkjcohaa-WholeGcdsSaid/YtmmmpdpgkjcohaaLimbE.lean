/- Package limb: Add; what wakes in each statement: Sub and DivMod come later. -/
import Derived.Test.YtmmmpdpgkjcohaaLimbD
namespace Go.Proofs.Ytmmmpdpgkjcohaa
open Go.RowKit

def two (a b : Value) : Nat → Value := fun j => if j = 0 then a else b
def two' (a b : List Nat) : Nat → List Nat := fun j => if j = 0 then a else b
theorem slS_two (w : World) (a b : Value) (e : TypeId) : SlS (w.alloc (.cells #[a, b] e)) (.slice (some ⟨w.heap.size, 0, none⟩) 2 2) 2 (two a b) := by
  refine ⟨_, 2, rfl, Nat.le_refl _, by omega, .inr ⟨w.heap.size, 0, rfl, by simp, fun j hj => ?_⟩⟩
  rw [Nat.zero_add, World.cell?_alloc_at _ _ _ _ rfl]
  have : j = 0 ∨ j = 1 := by omega
  rcases this with rfl | rfl <;> rfl

theorem Made.later {e : TypeId} {k : IntKind} {w w1 : World} {xs : List Nat} {en : Ending} {w' : World} (h : Made e k w1 xs en w') (g : w.grownBy w1 none) : Made e k w xs en w' := by
  obtain ⟨v, h1, h2, h3⟩ := h
  exact ⟨v, h1, h2.mono g.size, grown_trans g h3⟩

set_option maxHeartbeats 400000 in
theorem Add_any {v u : Value} {xs ys : List Nat} {w : World} (hx : Sl w .u32 v xs) (hy : Sl w .u32 u ys) (ax : All 4294967296 xs) (ay : All 4294967296 ys) (lx : xs.length ≤ 8796093022208) (ly : ys.length ≤ 8796093022208) :
    Calls Try.prog 50 #[v, u] w (Made 65 .u32 w (dig 4294967296 (val 4294967296 xs + val 4294967296 ys))) := by
  obtain ⟨p, cap, rfl, -⟩ := id hx
  obtain ⟨q, cap', rfl, -⟩ := id hy
  have Hx := Lib.hid hx
  have Hy := Lib.hid hy
  have Ax := Lib.hid ax
  have Ay := Lib.hid ay
  clear hx hy ax ay
  go_enter Try.func50, Try.ntmps50
  go_wp2_with fail
  refine (Sum_any _ 2 (two (.slice p xs.length cap) (.slice q ys.length cap')) (two' xs ys) _ (slS_two w _ _ _) ?_ ?_ 8796093022208 ?_ (by omega)).mono ?_
  · intro j hj
    have : j = 0 ∨ j = 1 := by omega
    rcases this with rfl | rfl
    · exact Hx.out.grown (grown_alloc _ _ none) (.inl rfl)
    · exact Hy.out.grown (grown_alloc _ _ none) (.inl rfl)
  · intro j hj
    have : j = 0 ∨ j = 1 := by omega
    rcases this with rfl | rfl
    · exact Ax.out
    · exact Ay.out
  · intro j hj
    have : j = 0 ∨ j = 1 := by omega
    rcases this with rfl | rfl
    · exact lx
    · exact ly
  · intro e w' h
    obtain ⟨v', rfl, ho, hg⟩ := h.later (grown_alloc w _ none)
    go_wp2_with fail
    go_ret
    have e : sumF (fun j => val 4294967296 (two' xs ys j)) 2 = val 4294967296 xs + val 4294967296 ys := by simp [sumF, two']
    rw [e] at ho
    exact ⟨_, rfl, ho, hg⟩

end Go.Proofs.Ytmmmpdpgkjcohaa
