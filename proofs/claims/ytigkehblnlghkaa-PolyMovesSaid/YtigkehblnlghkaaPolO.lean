/- Numbers told by facts as arguments of Of, Pow, ratio.Of and Within; a row of two numbers; sizes of what is moved. -/
import Derived.Test.YtigkehblnlghkaaPolM
import Derived.Test.YtigkehblnlghkaaPolS
import Derived.Test.YtigkehblnlghkaaPolK
import Derived.Test.YtigkehblnlghkaaPolN
import Derived.Test.YtigkehblnlghkaaPows
namespace Go.Proofs.Ytigkehblnlghkaa.Sym
open Go.RowKit
def z2 (a b : Int) : Nat → Int
  | 0 => a
  | _ => b
section
variable {Φ : Nat → World → Value → Prop} {p q x x1 x2 j i K : Nat} {a b t z y m : Int}
end
theorem hsum_bd {c : Nat → Int} {u : Int} {K ku m : Nat} (hc : ∀ i, i < m → Bd (c i).natAbs K) (hu : Bd u.natAbs ku) : ∀ r i, i + r ≤ m → Bd (hsum c u r i).natAbs (K + r * (ku + 1))
  | 0, _, _ => by
    simp only [hsum]
    exact Nat.pow_pos (by omega)
  | r + 1, i, h => by
    have h1 := Bd.mul (hsum_bd hc hu r (i + 1) (by omega)) hu
    have h2 := Bd.add1 ((hc i (by omega)).more (j := K + r * (ku + 1) + ku) (by omega)) h1
    rw [← Int.natAbs_mul] at h2
    simp only [hsum]
    refine (h2.le (Int.natAbs_add_le _ _)).more ?_
    rw [Nat.succ_mul]; omega
theorem shS_bd {c : Nat → Int} {u : Int} {K ku m : Nat} (hc : ∀ i, i < m → Bd (c i).natAbs K) (hu : Bd u.natAbs ku) : ∀ j i, i < m → Bd (shS c u m j i).natAbs (K + j * (m * (ku + 1)))
  | 0, i, hi => by
    simp only [shS]
    exact (hc i hi).more (by omega)
  | j + 1, i, hi => by
    have e : (j + 1) * (m * (ku + 1)) = j * (m * (ku + 1)) + m * (ku + 1) := Nat.succ_mul _ _
    simp only [shS]
    split
    · exact (shS_bd hc hu j i hi).more (by omega)
    · refine (hsum_bd (shS_bd hc hu j) hu (m - i) i (by omega)).more ?_
      have := Nat.mul_le_mul_right (ku + 1) (show m - i ≤ m by omega)
      omega
theorem wdC_bd {z : Nat → Int} {n : Nat} {d : Int} {k kd : Nat} (hz : ∀ i, i < tl z n → Bd (z i).natAbs k) (hd : Bd d.natAbs kd) (i : Nat) (hi : i < tl z n) : Bd (wdC z n d i).natAbs (k + (tl z n * kd + 1)) := by
  unfold wdC
  rw [Int.natAbs_mul, Int.natAbs_pow]
  refine (Bd.mul (hz i hi) (Bd.pow1 hd _)).more ?_
  have := Nat.mul_le_mul_right kd (show tl z n - 1 - i ≤ tl z n by omega)
  omega
theorem mvS_bd {z : Nat → Int} {n : Nat} {u d : Int} {k kd ku : Nat} (hz : ∀ i, i < tl z n → Bd (z i).natAbs k) (hd : Bd d.natAbs kd) (hu : Bd u.natAbs ku) (j a : Nat) (ha : a < tl z n) : Bd (mvS z n u d j a).natAbs (k + (tl z n * kd + 1) + j * (tl z n * (ku + 1))) :=
  shS_bd (wdC_bd hz hd) hu j a ha
theorem bd_zero (k : Nat) : Bd (0 : Int).natAbs k := Nat.pow_pos (by omega)
end Go.Proofs.Ytigkehblnlghkaa.Sym
