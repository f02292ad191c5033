/- Division of polynomials -/
import Derived.Test.YtomamliepbhegaaGreatPolH
namespace Go.Proofs.YtomamliepbhegaaGreat.Sym
open Go.RowKit
theorem mw (k:Nat):Bd (0:Int).natAbs k:=Nat.pow_pos (by omega)
section
variable {A z y:Nat->Int}{c pw:Int}{n m i j k p:Nat}
theorem gY (s:Int) (i:Nat) (g:Nat->Int) (p:Nat):conv (fun x=>if x=i then s else 0) g p=if i<=p then s*g (p-i) else 0:=by
 rw [nW]
 split
 ·rename_i h
  have e:∀k,k<=p->sumTo (fun x=>(if x=i then s else 0)*g (p-x)) (k+1)=if i<=k then s*g (p-i) else 0:=by
   intro k
   induction k with
   | zero=>
    intro _
    simp only [sumTo]
    by_cases h0:i=0
    ·subst h0;simp
    ·rw [if_neg (by omega),if_neg (by omega)];omega
   | succ k ih=>
    intro hk
    rw [sumTo,ih (by omega)]
    by_cases h0:i=k+1
    ·subst h0;rw [if_neg (by omega),if_pos rfl,if_pos (by omega)];omega
    ·rw [if_neg (c:=k+1=i) (by omega)]
     by_cases h1:i<=k
     ·rw [if_pos h1,if_pos (by omega)];omega
     ·rw [if_neg h1,if_neg (by omega)];omega
  rw [e p (Nat.le_refl _),if_pos h]
 ·rename_i h
  have e:∀k,k<=p+1->sumTo (fun x=>(if x=i then s else 0)*g (p-x)) k=0:=by
   intro k
   induction k with
   | zero=>intro _;rfl
   | succ k ih=>
    intro hk
    rw [sumTo,ih (by omega),if_neg (by omega)];omega
  exact e _ (Nat.le_refl _)
end
end Go.Proofs.YtomamliepbhegaaGreat.Sym
