/- The reference's Primitiv -/
import Derived.Test.YtbjfgffibepmkaaGreatDivQ
import Derived.Test.YtbjfgffibepmkaaGreatPolQ
namespace Go.Proofs.YtbjfgffibepmkaaGreat.Sym
open Go.RowKit
def dnL (q:Nat->Rat):Nat->Nat
 | 0=>1
 | j+1=>Nat.lcm (dnL q j) (q j).den
theorem lU (q:Nat->Rat):∀n,0<dnL q n
 | 0=>Nat.one_pos
 | n+1=>Nat.lcm_pos (lU q n) (q n).den_pos
theorem pP {q:Nat->Rat}{C:Nat}:∀{n},(∀i,i<n->(q i).den∣C)->dnL q n∣C
 | 0,_=>Nat.one_dvd C
 | n+1,h=>Nat.lcm_dvd (pP fun i hi=>h i (by omega)) (h n (by omega))
theorem lV {q:Nat->Rat}:∀{n i},i<n->(q i).den∣dnL q n
 | n+1,i,hi=>by
  rcases Nat.lt_or_ge i n with h | h
  ·exact Nat.dvd_trans (lV h) (Nat.dvd_lcm_left _ _)
  ·rw [show i=n by omega];exact Nat.dvd_lcm_right _ _
theorem yn {q:Rat}{u v:Int} (h:q*((v:Int):Rat)=((u:Int):Rat)) (hv:v≠0:=by omega):q.den∣v.natAbs:=by
 have hv2:((v:Int):Rat)≠0:=fun e=>hv (by exact_mod_cast e)
 have e:q=Rat.divInt u v:=by
  rw [Rat.divInt_eq_div,<- h,Rat.div_def,Rat.mul_assoc,Rat.mul_inv_cancel _ hv2,Rat.mul_one]
 rw [e,Rat.den_divInt,if_neg hv]
 exact Nat.div_dvd_of_dvd (Nat.gcd_dvd_left _ _)
theorem sN (z:Nat->Int) (a:Int):∀n,bp (fun i=>z i*a) n=bp z n*a.natAbs
 | 0=>(Nat.zero_mul _).symm
 | n+1=>by rw [bp,bp,sN z a n,Int.natAbs_mul,Nat.gcd_mul_right]
theorem IA (q:Rat):q*((q.den:Int):Rat)=((q.num:Int):Rat):=by
 have h:(((q.den:Int)):Rat)≠0:=fun e=>zi q (by exact_mod_cast e)
 conv=>lhs;lhs;rw [<- Rat.num_divInt_den q]
 rw [Rat.divInt_eq_div,Rat.div_mul_cancel h]
section
variable {Φ:PH}{p y n k K kr kc:Nat}{q:Nat->Rat}{R:Nat->Int}{C:Int}{PL:List Int}{b:Bool}
end
section
variable {Φ:PH}{p y n k K kr kc:Nat}{q:Nat->Rat}{R:Nat->Int}{C:Int}{SL:List Int}
end
theorem CH:∀(n:Nat) (z:Nat->Int),(∀x:Int,1<=x->hV x 1 n z=0)->∀i,i<n->z i=0
 | 0,_,_,i,hi=>by omega
 | n+1,z,h,i,hi=>by
  have h0:z 0=0:=by
   have h1:=h ((z 0).natAbs+1) (by omega)
   simp only [hV,Int.one_pow,Int.mul_one] at h1
   have h2:((z 0).natAbs+1:Int)∣z 0:=⟨-hV ((z 0).natAbs+1) 1 n fun i=>z (i+1),by rw [Int.mul_neg];omega⟩
   exact Int.eq_zero_of_dvd_of_natAbs_lt_natAbs h2 (by omega)
  cases i with
  | zero=>exact h0
  | succ i=>
   refine CH n (fun i=>z (i+1)) (fun x hx=>?_) i (by omega)
   have h1:=h x hx
   simp only [hV,Int.one_pow,Int.mul_one] at h1
   rw [h0,Int.zero_add] at h1
   rcases Int.mul_eq_zero.1 h1 with h2 | h2
   ·omega
   ·exact h2
theorem yi {n:Nat}{z y:Nat->Int} (h:∀x:Rat,ev x n z=ev x n y) (i:Nat) (hi:i<n):z i=y i:=by
 have h0:=CH n (fun i=>z i + -1*y i) (fun x _=>by
  have h1:=CI (u:=x) (d:=1) (x:=(x:Rat)) (by push_cast;grind) n (fun i=>z i + -1*y i)
  rw [kF n z (fun i=>-1*y i),mm (-1) n y,h (x:Rat)] at h1
  have h2:((hV x 1 n (fun i=>z i + -1*y i):Int):Rat)=0:=by
   push_cast at h1
   rw [Rat.mul_one] at h1
   rw [h1];grind
  exact_mod_cast h2) i hi
 have h1:z i + -1*y i=0:=h0
 omega
end Go.Proofs.YtbjfgffibepmkaaGreat.Sym
