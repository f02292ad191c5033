/- Derivatives of products; polynomials of the same values; what is moved there and back. -/
import Derived.Test.YtomamliepbhegaaPolN
namespace Go.Proofs.Ytomamliepbhegaa.Sym
open Go.RowKit
theorem MK:∀(n:Nat) (z:Nat->Int),(∀x:Int,1<=x->hV x 1 n z=0)->∀i,i<n->z i=0
 | 0,_,_,i,hi=>by omega
 | n+1,z,h,i,hi=>by
  have h0:z 0=0:=by
   have h1:=h ((z 0).natAbs+1) (by omega)
   simp only [hV,Int.one_pow,Int.mul_one] at h1
   have h2:((z 0).natAbs+1:Int)∣z 0:=⟨-hV ((z 0).natAbs+1) 1 n fun i=>z (i+1),by rw [Int.mul_neg];omega⟩
   exact Int.eq_zero_of_dvd_of_natAbs_lt_natAbs h2 (by omega)
  cases i with
  | zero=>exact h0
  | succ i=>
   refine MK n (fun i=>z (i+1)) (fun x hx=>?_) i (by omega)
   have h1:=h x hx
   simp only [hV,Int.one_pow,Int.mul_one] at h1
   rw [h0,Int.zero_add] at h1
   rcases Int.mul_eq_zero.1 h1 with h2 | h2
   ·omega
   ·exact h2
theorem zF {n:Nat}{z y:Nat->Int} (h:∀x:Rat,ev x n z=ev x n y) (i:Nat) (hi:i<n):z i=y i:=by
 have h0:=MK n (fun i=>z i + -1*y i) (fun x _=>by
  have h1:=ML (u:=x) (d:=1) (x:=(x:Rat)) (by push_cast;grind) n (fun i=>z i + -1*y i)
  rw [iJ n z (fun i=>-1*y i),jI (-1) n y,h (x:Rat)] at h1
  have h2:((hV x 1 n (fun i=>z i + -1*y i):Int):Rat)=0:=by
   push_cast at h1
   rw [Rat.mul_one] at h1
   rw [h1];grind
  exact_mod_cast h2) i hi
 have h1:z i + -1*y i=0:=h0
 omega
end Go.Proofs.Ytomamliepbhegaa.Sym
