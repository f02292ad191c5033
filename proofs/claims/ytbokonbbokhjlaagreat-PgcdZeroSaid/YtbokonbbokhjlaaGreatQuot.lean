/- Rational numbers as a numerator over a denominator; a denominator of 0 counts as 1. -/
import Derived.Test.YtbokonbbokhjlaaGreatNum
namespace Go.Proofs.YtbokonbbokhjlaaGreat
def ch (n d:Int):Rat:=if d=0 then Rat.divInt n 1 else Rat.divInt n d
theorem mN {n d:Int} (h:d≠0):ch n d=Rat.divInt n d:=by rw [ch,if_neg h]
theorem TV (n:Int):ch n 1=Rat.divInt n 1:=by rw [ch,if_neg (by omega)]
theorem Uq (q:Rat):ch q.num q.den=q:=by
 rw [mN (by have:=q.den_nz;omega),Rat.num_divInt_den]
def da (n d:Int):Int:=if d<0 then -(Int.gcd n d:Int) else (Int.gcd n d:Int)
theorem Ur {n d:Int} (hd:d≠0):0<(Int.gcd n d:Int):=by
 have:=Int.gcd_pos_of_ne_zero_right n hd
 omega
theorem kB {n d:Int} (hd:d≠0):da n d≠0:=by
 have:=Ur (n:=n) hd
 unfold da;split <;> omega
theorem q4 (n d:Int):da n d∣n:=by
 unfold da;split
 ·exact Int.neg_dvd.2 (Int.gcd_dvd_left ..)
 ·exact Int.gcd_dvd_left ..
theorem q5 (n d:Int):da n d∣d:=by
 unfold da;split
 ·exact Int.neg_dvd.2 (Int.gcd_dvd_right ..)
 ·exact Int.gcd_dvd_right ..
theorem DY {n d:Int} (hd:d≠0):n / da n d=(Rat.divInt n d).num:=by
 rw [Rat.num_divInt,Int.gcd_comm d n]
 unfold da
 by_cases h:d<0
 ·rw [if_pos h,Int.sign_eq_neg_one_of_neg h,Int.ediv_neg,<- Int.neg_ediv_of_dvd (Int.gcd_dvd_left ..)]
  congr 1;omega
 ·rw [if_neg h,Int.sign_eq_one_of_pos (by omega),Int.one_mul]
theorem DZ {n d:Int} (hd:d≠0):d / da n d=((Rat.divInt n d).den:Int):=by
 rw [Rat.den_divInt,if_neg hd,Int.gcd_comm d n]
 unfold da
 rw [Int.natCast_ediv]
 by_cases h:d<0
 ·rw [if_pos h,Int.ediv_neg,<- Int.neg_ediv_of_dvd (Int.gcd_dvd_right ..)]
  congr 1;omega
 ·rw [if_neg h];congr 1;omega
end Go.Proofs.YtbokonbbokhjlaaGreat
