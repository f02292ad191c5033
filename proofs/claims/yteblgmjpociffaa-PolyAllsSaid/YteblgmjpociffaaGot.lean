/- Contracts in the form in which straight code uses them: results in letters, numbers by equations. -/
import Derived.Test.YteblgmjpociffaaGcd
import Derived.Test.YteblgmjpociffaaRefK
import Derived.Test.YteblgmjpociffaaBx
import Derived.Test.YteblgmjpociffaaQuot
import Derived.Test.YteblgmjpociffaaStages
namespace Go.Proofs.Yteblgmjpociffaa
open Go.RowKit

/-- A normal whole number of at most k limbs. -/
def NorV (w : World) (v : Value) (z : Int) (k : Nat) : Prop := NorI w v z ∧ Bd z.natAbs k
theorem NorV.kp {w w' : World} {v : Value} {z : Int} {k : Nat} (h : NorV w v z k) (g : Kp w w') : NorV w' v z k := ⟨h.1.kp g, h.2⟩
theorem NorV.grown {w w' : World} {v : Value} {z : Int} {k : Nat} (h : NorV w v z k) (g : w.grownBy w' none) : NorV w' v z k := ⟨h.1.grown g, h.2⟩
theorem NorV.i {w : World} {v : Value} {z : Int} {k : Nat} (h : NorV w v z k) : IntV w v z k := h.1.intV h.2
theorem NorV.more {w : World} {v : Value} {z : Int} {k l : Nat} (h : NorV w v z k) (hl : k ≤ l) : NorV w v z l := ⟨h.1, h.2.more hl⟩
theorem NorV.eq {w : World} {v : Value} {z y : Int} {k : Nat} (h : NorV w v z k) (e : z = y) : NorV w v y k := e ▸ h
theorem IntV.open {w : World} {v : Value} {z : Int} {k : Nat} (h : IntV w v z k) : ∃ b p n c, v = .agg #[.bool b, .slice p n c] ∧ IntV w v z k := by
  obtain ⟨b, s, X, rfl, h1, h2⟩ := h
  obtain ⟨p, n, c, rfl⟩ := h1.slice
  exact ⟨b, p, n, c, rfl, b, _, X, rfl, h1, h2⟩
theorem IntV.bd' {w : World} {v : Value} {z : Int} {k : Nat} (h : IntV w v z k) : Bd z.natAbs k := by
  obtain ⟨b, s, X, rfl, h1, rfl⟩ := h
  rw [sg_abs]; exact h1.bd
theorem DecI.grow {w w' : World} {v : Value} {z : Int} {k : Nat} (h : DecI w v z k) (g : w.grownBy w' none) : DecI w' v z k := h.grown g
theorem DecI.eqz {w : World} {v : Value} {z y : Int} {k : Nat} (h : DecI w v z k) (e : z = y) : DecI w v y k := e ▸ h

/-- A normal whole number was made. -/
def GotI (w : World) (z : Int) (k : Nat) (e : Ending) (w' : World) : Prop := ∃ b p n c, e = .returned (.agg #[.bool b, .slice p n c]) ∧ NorV w' (.agg #[.bool b, .slice p n c]) z k ∧ w.grownBy w' none
theorem MadeI.got {w w' : World} {z : Int} {k : Nat} {e : Ending} (h : MadeI w z k e w') : GotI w z k e w' := by
  obtain ⟨v, rfl, h1, h2, h3⟩ := h
  obtain ⟨p, c, rfl, -⟩ := id h1
  exact ⟨_, p, _, c, rfl, ⟨h1.nor, h2⟩, h3⟩
/-- A whole number in digits was made. -/
def GotD (w : World) (z : Int) (k : Nat) (e : Ending) (w' : World) : Prop := ∃ p n c b, e = .returned (.agg #[.slice p n c, .bool b]) ∧ DecI w' (.agg #[.slice p n c, .bool b]) z k ∧ w.grownBy w' none
theorem GotD.mk {w w' : World} {v : Value} {z : Int} {k : Nat} (h1 : DecI w' v z k) (h3 : w.grownBy w' none) : GotD w z k (.returned v) w' := by
  obtain ⟨p, c, rfl, -⟩ := id h1
  exact ⟨p, _, c, _, rfl, h1, h3⟩
theorem MadeR.got {w w' : World} {z : Int} {k : Nat} {e : Ending} (h : MadeR w z k e w') : GotD w z k e w' := by
  obtain ⟨v, rfl, h1, h2, h3⟩ := h
  exact .mk (h1.decI h2) h3

section
variable {w : World} {v u : Value} {z y t : Int} {i j : Nat}
theorem Mul_g (hx : IntV w v z i) (hy : IntV w u y j) (hi : i + j ≤ 1000000) (ht : z * y = t) : Calls Try.prog 52 #[v, u] w (GotI w t (i + j)) := ht ▸ (Mul_i hx hy hi).mono fun _ _ h => h.got
theorem Add_g (hx : IntV w v z i) (hy : IntV w u y j) (hi : i + j ≤ 1000000) (ht : z + y = t) : Calls Try.prog 41 #[v, u] w (GotI w t (i + j + 1)) := ht ▸ (Add_i hx hy hi).mono fun _ _ h => h.got
theorem Neg_g (hx : IntV w v z i) (hi : i ≤ 1000000) (ht : -z = t) : Calls Try.prog 48 #[v] w (GotI w t i) := ht ▸ (Neg_i hx hi).mono fun _ _ h => h.got
theorem Norm_g (hx : IntV w v z i) (hi : i ≤ 1000000) : Calls Try.prog 53 #[v] w (GotI w z i) := (Norm_i hx hi).mono fun _ _ h => h.got
theorem Of_g (z : Int) (h1 : -9223372036854775808 ≤ z) (h2 : z ≤ 9223372036854775807) (ht : z = t) : Calls Try.prog 55 #[.int .i64 z] w (GotI w t 2) := ht ▸ (Of_i z w h1 h2).mono fun _ _ h => h.got
/-- A number and no error were handed back. -/
def GotE (w : World) (z : Int) (k : Nat) (e : Ending) (w' : World) : Prop := ∃ b p n c, e = .returned (.tuple #[.agg #[.bool b, .slice p n c], .int .i64 0]) ∧ NorV w' (.agg #[.bool b, .slice p n c]) z k ∧ w.grownBy w' none
/-- Quotient, remainder and no error were handed back. -/
def GotDiv (w : World) (q r : Int) (i j : Nat) (e : Ending) (w' : World) : Prop := ∃ b p n c b' p' n' c', e = .returned (.tuple #[.agg #[.bool b, .slice p n c], .agg #[.bool b', .slice p' n' c'], .int .i64 0]) ∧ NorV w' (.agg #[.bool b, .slice p n c]) q i ∧ NorV w' (.agg #[.bool b', .slice p' n' c']) r j ∧ w.grownBy w' none
theorem Mul_h (hx : DecI w v z i) (hy : DecI w u y j) (hi : i + j ≤ 1000000) (ht : z * y = t) : Calls Try.prog 79 #[v, u] w (GotD w t (i + j)) := ht ▸ (Mul_r hx hy hi).mono fun _ _ h => h.got
theorem Add_h (hx : DecI w v z i) (hy : DecI w u y j) (hi : i + j ≤ 1000000) (ht : z + y = t) : Calls Try.prog 78 #[v, u] w (GotD w t (i + j + 1)) := ht ▸ (Add_r hx hy hi).mono fun _ _ h => h.got
theorem Neg_h (hx : DecI w v z i) (ht : -z = t) : Calls Try.prog 61 #[v] w (GotD w t i) := by
  subst ht
  refine (Neg_r hx).mono fun e w' h => ?_
  obtain ⟨v, rfl, h1, h2⟩ := h
  exact .mk h1 h2
theorem Of_h (z : Int) (h1 : -9223372036854775808 ≤ z) (h2 : z ≤ 9223372036854775807) (ht : z = t) : Calls Try.prog 28 #[.int .i64 z] w (GotD w t 2) := ht ▸ (Of_r z w h1 h2).mono fun _ _ h => h.got
theorem From_h (hx : IntV w v z i) (hi : i ≤ 1000000) : Calls Try.prog 27 #[v] w (GotD w z i) := (From_r hx hi).mono fun _ _ h => h.got
theorem Gcd_h (k : Nat) (hx : DecI w v z i) (hy : DecI w u y j) (l0 : i ≤ k) (l1 : j ≤ k) (hk : k + k ≤ 1000000) (ht : (Int.gcd z y : Int) = t) : Calls Try.prog 62 #[v, u] w (GotD w t k) := by
  subst ht
  refine (Gcd_r (hx.more l0) (hy.more l1) hk).mono fun e w' h => ?_
  obtain ⟨v, rfl, h1, h2⟩ := h
  exact .mk h1 h2
theorem Zero_h (hx : DecI w v z i) {b : Bool} (hb : decide (z = 0) = b) : Calls Try.prog 35 #[v] w (fun e w' => e = .returned (.bool b) ∧ w.grownBy w' none) := hb ▸ Zero_r hx
end

end Go.Proofs.Yteblgmjpociffaa
