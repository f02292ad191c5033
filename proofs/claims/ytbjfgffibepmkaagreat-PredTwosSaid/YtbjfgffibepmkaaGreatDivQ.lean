/- The reference's DivMod o -/
import Derived.Test.YtbjfgffibepmkaaGreatDivN
namespace Go.Proofs.YtbjfgffibepmkaaGreat.Sym
open Go.RowKit
variable {w w1:World}{v:Value}
theorem Rw.own {sz n:Nat}{F:PH} (h:Rw sz F n w v) (hK:∀i w w1 v,Kp w w1->F i w v->F i w1 v) (k:Kp w w1) (hb:∀g,blk v=some g->w1.heap[g]?=w.heap[g]?):Rw sz F n w1 v:=by
 obtain ⟨p,c,rfl,hc,he⟩:=h
 refine ⟨p,c,rfl,hc,fun i hi=>?_⟩
 obtain ⟨b,off,rfl,l,h1,h2,h3⟩:=he i hi
 refine ⟨b,off,rfl,l,h1,fun j u hj=>?_,hK _ _ _ _ k h3⟩
 rw [World.cell?_of_block (hb b rfl)];exact h2 j u hj
theorem aax.kp {j K:Nat}{i:Nat} (h:i<j->af w v 0 K) (g:Kp w w1):i<j->af w1 v 0 K:=fun hi=>af.kp (h hi) g
section
variable {x b:Nat->Rat}{n m n0 t:Nat}
end
section
variable {z y:Nat->Int}{n m kz ky:Nat}{c:Int}
end
theorem least (N:Nat->Nat) (m:Nat):∀k,(∃R,(∀j,j<R->m<=N j)∧N R<m)∨∀j,j<k->m<=N j
 | 0=>.inr fun _ h=>by omega
 | k+1=>by
  rcases least N m k with h | h
  ·exact .inl h
  ·rcases Nat.lt_or_ge (N k) m with h1 | h1
   ·exact .inl ⟨k,h,h1⟩
   ·refine .inr fun j hj=>?_
    rcases Nat.lt_or_ge j k with h2 | h2
    ·exact h j h2
    ·rw [show j=k by omega];exact h1
section
variable {Φ:PH}{p q x r n n0 kz ky kx kb K:Nat}{z y:Nat->Int}{Z Y:Nat->Rat}
end
end Go.Proofs.YtbjfgffibepmkaaGreat.Sym
