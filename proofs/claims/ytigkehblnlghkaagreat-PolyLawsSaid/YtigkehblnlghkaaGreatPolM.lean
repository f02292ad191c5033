/- Bounds of Horner's sums; their signs far out. -/
import Derived.Test.YtigkehblnlghkaaGreatPolZ
namespace Go.Proofs.YtigkehblnlghkaaGreat.Sym
open Go.RowKit
theorem Bd.add1 {A B i : Nat} (h : Bd A i) (k : Bd B i) : Bd (A + B) (i + 1) := by
  unfold Bd at *
  rw [Nat.pow_succ]
  generalize 4294967296 ^ i = M at *
  omega
theorem Bd.pow1 {A k : Nat} (h : Bd A k) : ∀ j, Bd (A ^ j) (j * k + 1)
  | 0 => by rw [Nat.pow_zero, Nat.zero_mul]; show 1 < _; decide
  | j + 1 => by
    rw [Nat.pow_succ, Nat.succ_mul, show j * k + k + 1 = (j * k + 1) + k by omega]
    exact Bd.mul (Bd.pow1 h j) h
theorem hN_bd {z : Nat → Int} {m k kt : Nat} {u d : Int} (hm : 0 < m) (hz : ∀ i, i < m → Bd (z i).natAbs k) (hu : Bd u.natAbs kt) (hd : Bd d.natAbs kt) : ∀ j, Bd (hN z m u d j).natAbs (k + j * (kt + 1) + 1)
  | 0 => by
    simp only [hN]
    rw [if_neg (by omega)]
    exact (hz _ (by omega)).more (by omega)
  | j + 1 => by
    have h1 := Bd.mul (hN_bd hm hz hu hd j) hu
    have h2 := Bd.mul (hz (m - 2 - j) (by omega)) (Bd.pow1 hd (j + 1))
    have h3 : j * (kt + 1) = j * kt + j := by rw [Nat.mul_add, Nat.mul_one]
    have h4 : (j + 1) * (kt + 1) = j * kt + j + kt + 1 := by rw [Nat.succ_mul, h3]; omega
    have h5 : (j + 1) * kt = j * kt + kt := Nat.succ_mul _ _
    rw [h3] at h1
    rw [h5] at h2
    have h6 := Bd.add1 h1 (h2.more (j := k + (j * kt + j) + 1 + kt) (by omega))
    rw [← Int.natAbs_mul, ← Int.natAbs_pow, ← Int.natAbs_mul] at h6
    rw [h4]
    refine (h6.le ?_).more (by omega)
    simp only [hN]
    exact Int.natAbs_add_le _ _
theorem cmpI_sign {a x : Int} (ha : a = 1 ∨ a = -1) (h : 1 ≤ a * x) : cmpI x 0 = a := by
  unfold cmpI
  rcases ha with rfl | rfl
  · rw [if_neg (by omega), if_neg (by omega)]
  · rw [if_pos (by omega)]
end Go.Proofs.YtigkehblnlghkaaGreat.Sym
