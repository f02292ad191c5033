/- Layer 6's example. -/
import Derived.Test.YthmcngjhkmpneaaGreatDivC
import Derived.Test.YthmcngjhkmpneaaGreatDivE
namespace Go.Proofs.YthmcngjhkmpneaaGreat.Sym
open Go.RowKit
theorem uh {L:List Int} (h:∀x,x ∈ L->-9223372036854775808<=x∧x<=9223372036854775807) (i:Nat) : -9223372036854775808<=an L i∧an L i<=9223372036854775807:=by
 unfold an
 rw [List.getD_eq_getElem?_getD]
 cases hi:L[i]? with
 | none=>simp
 | some x=>exact h x (List.mem_of_getElem? hi)
section
variable {Φ:PH}{a b c:Nat}{x y z:Int}
theorem DK (h:∀w v,Φ a w v->v = .int .i64 x):∀(i p:Nat),[a][i]?=some p->∀w v,Φ p w v->v.cells.size=1∧(fun i _ v=>v = .agg #[.int .i64 (an [x] i)]:PH) i w (.agg v.cells)
 | 0,p,hp,w,v,hv=>by
  simp only [List.getElem?_cons_zero,Option.some.injEq] at hp
  subst hp
  rw [h w v hv];exact ⟨rfl,rfl⟩
 | i+1,p,hp,_,_,_=>by simp at hp
theorem ug (h:∀w v,Φ a w v->v = .int .i64 x) (h':∀w v,Φ b w v->v = .int .i64 y):∀(i p:Nat),[a,b][i]?=some p->∀w v,Φ p w v->v.cells.size=1∧(fun i _ v=>v = .agg #[.int .i64 (an [x,y] i)]:PH) i w (.agg v.cells)
 | 0,p,hp,w,v,hv=>by
  simp only [List.getElem?_cons_zero,Option.some.injEq] at hp
  subst hp
  rw [h w v hv];exact ⟨rfl,rfl⟩
 | 1,p,hp,w,v,hv=>by
  simp only [List.getElem?_cons_succ,List.getElem?_cons_zero,Option.some.injEq] at hp
  subst hp
  rw [h' w v hv];exact ⟨rfl,rfl⟩
 | i+2,p,hp,_,_,_=>by simp at hp
end
section
variable {Φ:PH}{p q x n k kq:Nat}{z:Nat->Int}
end
end Go.Proofs.YthmcngjhkmpneaaGreat.Sym
