/- Bounds of Horner's sums; their signs far out. -/
import Derived.Test.YthmcngjhkmpneaaGreatPolZ
namespace Go.Proofs.YthmcngjhkmpneaaGreat.Sym
open Go.RowKit
theorem Bd.add1 {A B i:Nat} (h:Bd A i) (k:Bd B i):Bd (A+B) (i+1):=by
 unfold Bd at *
 rw [Nat.pow_succ]
 generalize 4294967296 ^ i=M at *
 omega
theorem Bd.kg {A k:Nat} (h:Bd A k):∀j,Bd (A ^ j) (j*k+1)
 | 0=>by rw [Nat.pow_zero,Nat.zero_mul];show 1<_;decide
 | j+1=>by
  rw [Nat.pow_succ,Nat.succ_mul,show j*k+k+1=(j*k+1)+k by omega]
  exact Bd.mul (Bd.kg h j) h
end Go.Proofs.YthmcngjhkmpneaaGreat.Sym
