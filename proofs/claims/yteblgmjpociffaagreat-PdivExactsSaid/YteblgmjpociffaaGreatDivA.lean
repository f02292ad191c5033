/- Division of polynomials: what is left behind each step. -/
import Derived.Test.YteblgmjpociffaaGreatPolH
namespace Go.Proofs.YteblgmjpociffaaGreat.Sym
open Go.RowKit
theorem Bd.powD {A k : Nat} (h : Bd A k) : ∀ j, Bd (A ^ j) (j * k + 1)
 | 0 => by rw [Nat.pow_zero, Nat.zero_mul]; show 1 < _; decide
 | j + 1 => by
  rw [Nat.pow_succ, Nat.succ_mul, show j * k + k + 1 = (j * k + 1) + k by omega]
  exact Bd.mul (Bd.powD h j) h
theorem bd_zeroD (k : Nat) : Bd (0 : Int).natAbs k := Nat.pow_pos (by omega)
theorem mulL_bdD {z y : Nat -> Int} {n m k k' : Nat} (hz : ∀ i, i < n -> Bd (z i).natAbs k) (hy : ∀ i, i < m -> Bd (y i).natAbs k') (i : Nat) : Bd (coef (mulL z n y m) i).natAbs (k + k' + n) := by
 unfold mulL
 split
 ·rw [coef_out (by simp)]; exact bd_zeroD _
 ·rw [coef_mk]
  split
  ·have h1 := tl_le z n
   have h2 := tl_le y m
   exact (cvS_bd (c := n) hz (fun i hi => hy i (by omega)) h1 h1 i).more (by omega)
  ·exact bd_zeroD _
def rdR (z y : Nat -> Int) (n m : Nat) (c : Int) : Nat -> Nat -> Int
 | 0, p => z p
 | j + 1, p => rdR z y n m c j p * c - (if m - 1 - j <= p then rdR z y n m c j (m - 1 - j + n) * y (p - (m - 1 - j)) else 0)
def rd1 (A : Nat -> Int) (i : Nat) (pw : Int) (p : Nat) : Int := if p = i then A i * pw else A p
def rd2 (A y : Nat -> Int) (c : Int) (n i k p : Nat) : Int := if i <= p ∧ p < i + k then A p * c - A (i + n) * y (p - i) else A p
def rdA (z y : Nat -> Int) (n m : Nat) (c : Int) : Nat -> Nat -> Int
 | 0 => z
 | j + 1 => rd2 (rd1 (rdA z y n m c j) (m - 1 - j) (c ^ j)) y c n (m - 1 - j) n
def rdT (z y : Nat -> Int) (n m : Nat) (c : Int) (p : Nat) : Int := rd1 (rdA z y n m c (m - 1 - p)) p (c ^ (m - 1 - p)) (p + n)
section
variable {A z y : Nat -> Int} {c pw : Int} {n m i j k p : Nat}
theorem rd1_ne (h : p ≠ i) : rd1 A i pw p = A p := if_neg h
theorem rd1_at : A i * pw = rd1 A i pw i := (if_pos rfl).symm
theorem rd2_zero : rd2 A y c n i 0 p = A p := if_neg (by omega)
theorem rd2_ne (h : p ≠ i + k) : rd2 A y c n i (k + 1) p = rd2 A y c n i k p := by
 unfold rd2
 split <;> split <;> first | rfl | omega
theorem rd2_at : rd2 A y c n i k (i + k) * c - A (i + n) * y k = rd2 A y c n i (k + 1) (i + k) := by
 unfold rd2
 rw [if_neg (by omega), if_pos (by omega), show i + k - i = k by omega]
theorem rdA_low : ∀ {j}, j <= m -> ∀ {p}, p < m - j -> rdA z y n m c j p = z p
 | 0, _, _, _ => rfl
 | j + 1, hj, p, hp => by
  show rd2 (rd1 (rdA z y n m c j) (m - 1 - j) (c ^ j)) y c n (m - 1 - j) n p = z p
  rw [rd2, if_neg (by omega), rd1_ne (by omega), rdA_low (by omega) (by omega)]
theorem conv_one (s : Int) (i : Nat) (g : Nat -> Int) (p : Nat) : conv (fun x => if x = i then s else 0) g p = if i <= p then s * g (p - i) else 0 := by
 rw [conv_sum]
 split
 ·rename_i h
  have e : ∀ k, k <= p -> sumTo (fun x => (if x = i then s else 0) * g (p - x)) (k + 1) = if i <= k then s * g (p - i) else 0 := by
   intro k
   induction k with
   | zero =>
    intro _
    simp only [sumTo]
    by_cases h0 : i = 0
    ·subst h0; simp
    ·rw [if_neg (by omega), if_neg (by omega)]; omega
   | succ k ih =>
    intro hk
    rw [sumTo, ih (by omega)]
    by_cases h0 : i = k + 1
    ·subst h0; rw [if_neg (by omega), if_pos rfl, if_pos (by omega)]; omega
    ·rw [if_neg (c := k + 1 = i) (by omega)]
     by_cases h1 : i <= k
     ·rw [if_pos h1, if_pos (by omega)]; omega
     ·rw [if_neg h1, if_neg (by omega)]; omega
  rw [e p (Nat.le_refl _), if_pos h]
 ·rename_i h
  have e : ∀ k, k <= p + 1 -> sumTo (fun x => (if x = i then s else 0) * g (p - x)) k = 0 := by
   intro k
   induction k with
   | zero => intro _; rfl
   | succ k ih =>
    intro hk
    rw [sumTo, ih (by omega), if_neg (by omega)]; omega
  exact e _ (Nat.le_refl _)
theorem Bd.msub {a b c d : Int} {i j : Nat} (ha : Bd a.natAbs i) (hc : Bd c.natAbs j) (hb : Bd b.natAbs i) (hd : Bd d.natAbs j) : Bd (a * c - b * d).natAbs (i + j + 1) :=
 (Bd.add1' (Bd.mul ha hc) (Bd.mul hb hd)).le (by rw [<- Int.natAbs_mul, <- Int.natAbs_mul]; omega)
theorem rdA_bd {kz ky : Nat} (hz : ∀ p, Bd (z p).natAbs kz) (hy : ∀ p, Bd (y p).natAbs ky) (hc : Bd c.natAbs ky) : ∀ {j}, j <= m -> (∀ p, Bd (rdA z y n m c j p).natAbs (kz + 1 + j * (ky + 1))) ∧ (j < m -> (∀ p, Bd (rd1 (rdA z y n m c j) (m - 1 - j) (c ^ j) p).natAbs (kz + 1 + j * (ky + 1))) ∧ ∀ k p, Bd (rd2 (rd1 (rdA z y n m c j) (m - 1 - j) (c ^ j)) y c n (m - 1 - j) k p).natAbs (kz + 1 + (j + 1) * (ky + 1))) := by
 have hA : ∀ {j}, j < m -> (∀ p, Bd (rdA z y n m c j p).natAbs (kz + 1 + j * (ky + 1))) -> (∀ p, Bd (rd1 (rdA z y n m c j) (m - 1 - j) (c ^ j) p).natAbs (kz + 1 + j * (ky + 1))) ∧ ∀ k p, Bd (rd2 (rd1 (rdA z y n m c j) (m - 1 - j) (c ^ j)) y c n (m - 1 - j) k p).natAbs (kz + 1 + (j + 1) * (ky + 1)) := fun {j} hj h => by
  have h1 : ∀ q, Bd (rd1 (rdA z y n m c j) (m - 1 - j) (c ^ j) q).natAbs (kz + 1 + j * (ky + 1)) := fun q => by
   unfold rd1
   split
   ·rw [rdA_low (by omega) (by omega), Int.natAbs_mul, Int.natAbs_pow]
    refine (Bd.mul (hz _) (Bd.powD hc j)).more ?_
    rw [Nat.mul_add, Nat.mul_one]; omega
   ·exact h q
  refine ⟨h1, fun k p => ?_⟩
  unfold rd2
  split
  ·refine (Bd.msub (h1 p) hc (h1 _) (hy _)).more ?_
   rw [Nat.succ_mul]; omega
  ·refine (h1 p).more ?_
   rw [Nat.succ_mul]; omega
 have hB : ∀ {j}, j <= m -> ∀ p, Bd (rdA z y n m c j p).natAbs (kz + 1 + j * (ky + 1)) := fun {j} => by
  induction j with
  | zero => exact fun _ p => (hz p).more (by omega)
  | succ j ih => exact fun hj => (hA (by omega) (ih (by omega))).2 n
 exact fun {j} hj => ⟨hB hj, fun h => hA h (hB hj)⟩
end
end Go.Proofs.YteblgmjpociffaaGreat.Sym
