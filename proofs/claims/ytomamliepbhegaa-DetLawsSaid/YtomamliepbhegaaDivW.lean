/- Layer 6's example. -/
import Derived.Test.YtomamliepbhegaaDivC
import Derived.Test.YtomamliepbhegaaDivE
namespace Go.Proofs.Ytomamliepbhegaa.Sym
open Go.RowKit
theorem gC {L:List Int} (h:∀x,x ∈ L->-9223372036854775808<=x∧x<=9223372036854775807) (i:Nat) : -9223372036854775808<=ae L i∧ae L i<=9223372036854775807:=by
 unfold ae
 rw [List.getD_eq_getElem?_getD]
 cases hi:L[i]? with
 | none=>simp
 | some x=>exact h x (List.mem_of_getElem? hi)
section
variable {Φ:PH}{a b c:Nat}{x y z:Int}
theorem gD (h:∀w v,Φ a w v->v = .int .i64 x):∀(i p:Nat),[a][i]?=some p->∀w v,Φ p w v->v.cells.size=1∧(fun i _ v=>v = .agg #[.int .i64 (ae [x] i)]:PH) i w (.agg v.cells)
 | 0,p,hp,w,v,hv=>by
  simp only [List.getElem?_cons_zero,Option.some.injEq] at hp
  subst hp
  rw [h w v hv];exact ⟨rfl,rfl⟩
 | i+1,p,hp,_,_,_=>by simp at hp
end
section
variable {Φ:PH}{p q x n k kq:Nat}{z:Nat->Int}
end
end Go.Proofs.Ytomamliepbhegaa.Sym
