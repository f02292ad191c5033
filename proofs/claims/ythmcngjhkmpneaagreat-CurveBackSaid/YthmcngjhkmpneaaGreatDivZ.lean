/- The reference's Primitive and Sized over the rationals. -/
import Derived.Test.YthmcngjhkmpneaaGreatDivQ
namespace Go.Proofs.YthmcngjhkmpneaaGreat.Sym
open Go.RowKit
def dnL (q:Nat->Rat):Nat->Nat
 | 0=>1
 | j+1=>Nat.lcm (dnL q j) (q j).den
theorem kh (q:Nat->Rat):∀n,0<dnL q n
 | 0=>Nat.one_pos
 | n+1=>Nat.lcm_pos (kh q n) (q n).den_pos
theorem ms {q:Nat->Rat}{C:Nat}:∀{n},(∀i,i<n->(q i).den∣C)->dnL q n∣C
 | 0,_=>Nat.one_dvd C
 | n+1,h=>Nat.lcm_dvd (ms fun i hi=>h i (by omega)) (h n (by omega))
theorem jf {q:Nat->Rat}:∀{n i},i<n->(q i).den∣dnL q n
 | n+1,i,hi=>by
  rcases Nat.lt_or_ge i n with h | h
  ·exact Nat.dvd_trans (jf h) (Nat.dvd_lcm_left _ _)
  ·rw [show i=n by omega];exact Nat.dvd_lcm_right _ _
theorem tL {q:Rat}{u v:Int} (hv:v≠0) (h:q*((v:Int):Rat)=((u:Int):Rat)):q.den∣v.natAbs:=by
 have hv2:((v:Int):Rat)≠0:=fun e=>hv (by exact_mod_cast e)
 have e:q=Rat.divInt u v:=by
  rw [Rat.divInt_eq_div,<- h,Rat.div_def,Rat.mul_assoc,Rat.mul_inv_cancel _ hv2,Rat.mul_one]
 rw [e,Rat.den_divInt,if_neg hv]
 exact Nat.div_dvd_of_dvd (Nat.gcd_dvd_left _ _)
theorem tM (z:Nat->Int) (a:Int):∀n,ba (fun i=>z i*a) n=ba z n*a.natAbs
 | 0=>(Nat.zero_mul _).symm
 | n+1=>by rw [ba,ba,tM z a n,Int.natAbs_mul,Nat.gcd_mul_right]
theorem BV (q:Rat):q*((q.den:Int):Rat)=((q.num:Int):Rat):=by
 have h:(((q.den:Int)):Rat)≠0:=fun e=>oX q (by exact_mod_cast e)
 conv=>lhs;lhs;rw [<- Rat.num_divInt_den q]
 rw [Rat.divInt_eq_div,Rat.div_mul_cancel h]
section
variable {Φ:PH}{p y n k K kr kc:Nat}{q:Nat->Rat}{R:Nat->Int}{C:Int}{PL:List Int}{b:Bool}
end
section
variable {Φ:PH}{p y n k K kr kc:Nat}{q:Nat->Rat}{R:Nat->Int}{C:Int}{SL:List Int}
end
end Go.Proofs.YthmcngjhkmpneaaGreat.Sym
