/- Rational numbers as a numerator over a denominator; a denominator of 0 counts as 1. -/
import Derived.Test.YteblgmjpociffaaNum
namespace Go.Proofs.Yteblgmjpociffaa

/-- What n over d counts as. -/
def qOf (n d : Int) : Rat := if d = 0 then Rat.divInt n 1 else Rat.divInt n d
/-- Numerator and denominator, the latter above 0. -/
def pN (n d : Int) : Int := if d < 0 then -n else n
def pD (d : Int) : Int := if d = 0 then 1 else if d < 0 then -d else d
theorem pD_pos (d : Int) : 0 < pD d := by unfold pD; split <;> (try split) <;> omega
theorem pD_ne (d : Int) : pD d ≠ 0 := by have := pD_pos d; omega
theorem qOf_parts (n d : Int) : qOf n d = Rat.divInt (pN n d) (pD d) := by
  unfold qOf pN pD
  by_cases h : d = 0
  · rw [if_pos h, if_pos h, if_neg (by omega)]
  · rw [if_neg h, if_neg h]
    by_cases h2 : d < 0
    · rw [if_pos h2, if_pos h2, Rat.neg_divInt_neg]
    · rw [if_neg h2, if_neg h2]
theorem qOf_ne {n d : Int} (h : d ≠ 0) : qOf n d = Rat.divInt n d := by rw [qOf, if_neg h]
theorem qOf_one (n : Int) : qOf n 1 = Rat.divInt n 1 := by rw [qOf, if_neg (by omega)]
theorem qOf_self (q : Rat) : qOf q.num q.den = q := by
  rw [qOf_ne (by have := q.den_nz; omega), Rat.num_divInt_den]

/-- What both are divided by. -/
def byOf (n d : Int) : Int := if d < 0 then -(Int.gcd n d : Int) else (Int.gcd n d : Int)
theorem gcd_pos {n d : Int} (hd : d ≠ 0) : 0 < (Int.gcd n d : Int) := by
  have := Int.gcd_pos_of_ne_zero_right n hd
  omega
theorem byOf_ne {n d : Int} (hd : d ≠ 0) : byOf n d ≠ 0 := by
  have := gcd_pos (n := n) hd
  unfold byOf; split <;> omega
theorem byOf_dvd_n (n d : Int) : byOf n d ∣ n := by
  unfold byOf; split
  · exact Int.neg_dvd.2 (Int.gcd_dvd_left ..)
  · exact Int.gcd_dvd_left ..
theorem byOf_dvd_d (n d : Int) : byOf n d ∣ d := by
  unfold byOf; split
  · exact Int.neg_dvd.2 (Int.gcd_dvd_right ..)
  · exact Int.gcd_dvd_right ..
theorem num_by {n d : Int} (hd : d ≠ 0) : n / byOf n d = (Rat.divInt n d).num := by
  rw [Rat.num_divInt, Int.gcd_comm d n]
  unfold byOf
  by_cases h : d < 0
  · rw [if_pos h, Int.sign_eq_neg_one_of_neg h, Int.ediv_neg, ← Int.neg_ediv_of_dvd (Int.gcd_dvd_left ..)]
    congr 1; omega
  · rw [if_neg h, Int.sign_eq_one_of_pos (by omega), Int.one_mul]
theorem den_by {n d : Int} (hd : d ≠ 0) : d / byOf n d = ((Rat.divInt n d).den : Int) := by
  rw [Rat.den_divInt, if_neg hd, Int.gcd_comm d n]
  unfold byOf
  rw [Int.natCast_ediv]
  by_cases h : d < 0
  · rw [if_pos h, Int.ediv_neg, ← Int.neg_ediv_of_dvd (Int.gcd_dvd_right ..)]
    congr 1; omega
  · rw [if_neg h]; congr 1; omega
theorem num_le (n d : Int) : (Rat.divInt n d).num.natAbs ≤ n.natAbs := by
  by_cases hd : d = 0
  · subst hd; simp
  · rw [← num_by hd]; exact Int.natAbs_ediv_le_natAbs ..
theorem den_le {n d : Int} (hd : d ≠ 0) : (Rat.divInt n d).den ≤ d.natAbs := by
  have h := den_by (n := n) hd
  have h2 := Int.natAbs_ediv_le_natAbs d (byOf n d)
  rw [h] at h2
  simpa using h2

/-- Which is greater. -/
def cmpQ (q r : Rat) : Int := if q < r then -1 else if q = r then 0 else 1
theorem lt_parts {n d m e : Int} (hd : 0 < d) (he : 0 < e) : Rat.divInt n d < Rat.divInt m e ↔ n * e < m * d := by
  have h1 : (0 : Rat) < (d : Rat) := Rat.intCast_pos.2 hd
  have h2 : (0 : Rat) < (e : Rat) := Rat.intCast_pos.2 he
  rw [Rat.divInt_eq_div, Rat.divInt_eq_div, Rat.div_lt_iff h1, Rat.div_def, Rat.mul_assoc, Rat.mul_comm (e : Rat)⁻¹, ← Rat.mul_assoc, ← Rat.div_def, Rat.lt_div_iff h2, ← Rat.intCast_mul, ← Rat.intCast_mul, Rat.intCast_lt_intCast]
theorem eq_parts {n d m e : Int} (hd : 0 < d) (he : 0 < e) : Rat.divInt n d = Rat.divInt m e ↔ n * e = m * d := Rat.divInt_eq_divInt_iff (by omega) (by omega)
theorem add_parts {n d m e : Int} (hd : 0 < d) (he : 0 < e) : Rat.divInt n d + Rat.divInt m e = Rat.divInt (n * e + m * d) (d * e) := Rat.divInt_add_divInt _ _ (by omega) (by omega)
theorem mul_parts (n d m e : Int) : Rat.divInt n d * Rat.divInt m e = Rat.divInt (n * m) (d * e) := Rat.divInt_mul_divInt _ _
theorem quo_parts (n d m e : Int) : Rat.divInt n d / Rat.divInt m e = Rat.divInt (n * e) (d * m) := by
  rw [Rat.div_def, Rat.inv_divInt, Rat.divInt_mul_divInt]
theorem floor_parts {n d : Int} (hd : 0 < d) : (Rat.divInt n d).floor = n / d := by
  have h1 : (0 : Rat) < (d : Rat) := Rat.intCast_pos.2 hd
  have key : ∀ x : Int, x ≤ (Rat.divInt n d).floor ↔ x ≤ n / d := fun x => by
    rw [Rat.le_floor_iff, Int.le_ediv_iff_mul_le hd, ← Rat.not_lt, Rat.divInt_eq_div, Rat.div_lt_iff h1, ← Rat.intCast_mul, Rat.intCast_lt_intCast]
    omega
  have a := (key _).1 (Int.le_refl _)
  have b := (key _).2 (Int.le_refl _)
  omega
theorem mid_parts {n d : Int} (hd : 0 < d) : Rat.divInt n (d + d) = Rat.divInt n d / 2 := by
  have h1 : (d : Rat) ≠ 0 := fun h => by have := Rat.intCast_pos.2 hd; rw [h] at this; exact Rat.lt_irrefl this
  rw [show d + d = d * 2 by omega, show (2 : Rat) = Rat.divInt 2 1 from rfl, quo_parts, Int.mul_one]

end Go.Proofs.Yteblgmjpociffaa
