/- Rational numbers as a numerator over a denominator; a denominator of 0 counts as 1. -/
import Derived.Test.YteblgmjpociffaaGreatNum
namespace Go.Proofs.YteblgmjpociffaaGreat
def qOf (n d : Int) : Rat := if d = 0 then Rat.divInt n 1 else Rat.divInt n d
def pN (n d : Int) : Int := if d < 0 then -n else n
def pD (d : Int) : Int := if d = 0 then 1 else if d < 0 then -d else d
theorem qOf_ne {n d : Int} (h : d ≠ 0) : qOf n d = Rat.divInt n d := by rw [qOf, if_neg h]
theorem qOf_one (n : Int) : qOf n 1 = Rat.divInt n 1 := by rw [qOf, if_neg (by omega)]
theorem qOf_self (q : Rat) : qOf q.num q.den = q := by
 rw [qOf_ne (by have := q.den_nz; omega), Rat.num_divInt_den]
def byOf (n d : Int) : Int := if d < 0 then -(Int.gcd n d : Int) else (Int.gcd n d : Int)
theorem gcd_pos {n d : Int} (hd : d ≠ 0) : 0 < (Int.gcd n d : Int) := by
 have := Int.gcd_pos_of_ne_zero_right n hd
 omega
theorem byOf_ne {n d : Int} (hd : d ≠ 0) : byOf n d ≠ 0 := by
 have := gcd_pos (n := n) hd
 unfold byOf; split <;> omega
theorem byOf_dvd_n (n d : Int) : byOf n d ∣ n := by
 unfold byOf; split
 ·exact Int.neg_dvd.2 (Int.gcd_dvd_left ..)
 ·exact Int.gcd_dvd_left ..
theorem byOf_dvd_d (n d : Int) : byOf n d ∣ d := by
 unfold byOf; split
 ·exact Int.neg_dvd.2 (Int.gcd_dvd_right ..)
 ·exact Int.gcd_dvd_right ..
theorem num_by {n d : Int} (hd : d ≠ 0) : n / byOf n d = (Rat.divInt n d).num := by
 rw [Rat.num_divInt, Int.gcd_comm d n]
 unfold byOf
 by_cases h : d < 0
 ·rw [if_pos h, Int.sign_eq_neg_one_of_neg h, Int.ediv_neg, <- Int.neg_ediv_of_dvd (Int.gcd_dvd_left ..)]
  congr 1; omega
 ·rw [if_neg h, Int.sign_eq_one_of_pos (by omega), Int.one_mul]
theorem den_by {n d : Int} (hd : d ≠ 0) : d / byOf n d = ((Rat.divInt n d).den : Int) := by
 rw [Rat.den_divInt, if_neg hd, Int.gcd_comm d n]
 unfold byOf
 rw [Int.natCast_ediv]
 by_cases h : d < 0
 ·rw [if_pos h, Int.ediv_neg, <- Int.neg_ediv_of_dvd (Int.gcd_dvd_right ..)]
  congr 1; omega
 ·rw [if_neg h]; congr 1; omega
def cmpQ (q r : Rat) : Int := if q < r then -1 else if q = r then 0 else 1
theorem quo_parts (n d m e : Int) : Rat.divInt n d / Rat.divInt m e = Rat.divInt (n * e) (d * m) := by
 rw [Rat.div_def, Rat.inv_divInt, Rat.divInt_mul_divInt]
end Go.Proofs.YteblgmjpociffaaGreat
