/- Bounds of Horner's sums; their signs far out. -/
import Derived.Test.YthmcngjhkmpneaaGreatPolZ
namespace Go.Proofs.YthmcngjhkmpneaaGreat.Sym
open Go.RowKit
theorem Bd.add1 {A B i:Nat} (h:Bd A i) (k:Bd B i):Bd (A+B) (i+1):=by
 unfold Bd at *
 rw [Nat.pow_succ]
 generalize 4294967296 ^ i=M at *
 omega
theorem Bd.kg {A k:Nat} (h:Bd A k):∀j,Bd (A ^ j) (j*k+1)
 | 0=>by rw [Nat.pow_zero,Nat.zero_mul];show 1<_;decide
 | j+1=>by
  rw [Nat.pow_succ,Nat.succ_mul,show j*k+k+1=(j*k+1)+k by omega]
  exact Bd.mul (Bd.kg h j) h
theorem La {z:Nat->Int}{m k kt:Nat}{u d:Int} (hm:0<m) (hz:∀i,i<m->Bd (z i).natAbs k) (hu:Bd u.natAbs kt) (hd:Bd d.natAbs kt):∀j,Bd (hN z m u d j).natAbs (k+j*(kt+1)+1)
 | 0=>by
  simp only [hN]
  rw [if_neg (by omega)]
  exact (hz _ (by omega)).more (by omega)
 | j+1=>by
  have h1:=Bd.mul (La hm hz hu hd j) hu
  have h2:=Bd.mul (hz (m-2-j) (by omega)) (Bd.kg hd (j+1))
  have h3:j*(kt+1)=j*kt+j:=by rw [Nat.mul_add,Nat.mul_one]
  have h4:(j+1)*(kt+1)=j*kt+j+kt+1:=by rw [Nat.succ_mul,h3];omega
  have h5:(j+1)*kt=j*kt+kt:=Nat.succ_mul _ _
  rw [h3] at h1
  rw [h5] at h2
  have h6:=Bd.add1 h1 (h2.more (j:=k+(j*kt+j)+1+kt) (by omega))
  rw [<- Int.natAbs_mul,<- Int.natAbs_pow,<- Int.natAbs_mul] at h6
  rw [h4]
  refine (h6.le ?_).more (by omega)
  simp only [hN]
  exact Int.natAbs_add_le _ _
end Go.Proofs.YthmcngjhkmpneaaGreat.Sym
