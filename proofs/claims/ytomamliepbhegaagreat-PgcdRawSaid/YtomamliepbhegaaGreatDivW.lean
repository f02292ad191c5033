/- Layer 6's example -/
import Derived.Test.YtomamliepbhegaaGreatDivE
namespace Go.Proofs.YtomamliepbhegaaGreat.Sym
open Go.RowKit
variable {L:List Int}
theorem mD  (h:∀x,x ∈ L->-9223372036854775808<=x∧x<=9223372036854775807) (i:Nat) : -9223372036854775808<=ae L i∧ae L i<=9223372036854775807:=by
 unfold ae
 rw [List.getD_eq_getElem?_getD]
 cases hi:L[i]? with
 | none=>simp
 | some x=>exact h x (List.mem_of_getElem? hi)
theorem ve  (i:Nat) (h:∀x,x ∈ L->x.natAbs<4294967296:=by decide):Bd (ae L i).natAbs 1:=by
 unfold ae
 rw [List.getD_eq_getElem?_getD]
 cases hi:L[i]? with
 | none=>show 0<_;omega
 | some x=>show _<4294967296 ^ 1;have:=h x (List.mem_of_getElem? hi);simpa using this
section
variable {Φ:PH}{a b c:Nat}{x y z:Int}
theorem On (h:∀w v,Φ a w v->v = .int .i64 x):∀(i p:Nat),[a][i]?=some p->∀w v,Φ p w v->v.cells.size=1∧(fun i _ v=>v = .agg #[.int .i64 (ae [x] i)]:PH) i w (.agg v.cells)
 | 0,p,hp,w,v,hv=>by
  simp only [List.getElem?_cons_zero,Option.some.injEq] at hp
  subst hp
  rw [h w v hv];exact ⟨rfl,rfl⟩
 | i+1,p,hp,_,_,_=>by simp at hp
theorem rV (h:∀w v,Φ a w v->v = .int .i64 x) (h':∀w v,Φ b w v->v = .int .i64 y):∀(i p:Nat),[a,b][i]?=some p->∀w v,Φ p w v->v.cells.size=1∧(fun i _ v=>v = .agg #[.int .i64 (ae [x,y] i)]:PH) i w (.agg v.cells)
 | 0,p,hp,w,v,hv=>by
  simp only [List.getElem?_cons_zero,Option.some.injEq] at hp
  subst hp
  rw [h w v hv];exact ⟨rfl,rfl⟩
 | 1,p,hp,w,v,hv=>by
  simp only [List.getElem?_cons_succ,List.getElem?_cons_zero,Option.some.injEq] at hp
  subst hp
  rw [h' w v hv];exact ⟨rfl,rfl⟩
 | i+2,p,hp,_,_,_=>by simp at hp
theorem AX (h:∀w v,Φ a w v->v = .int .i64 x) (h':∀w v,Φ b w v->v = .int .i64 y) (h'':∀w v,Φ c w v->v = .int .i64 z):∀(i p:Nat),[a,b,c][i]?=some p->∀w v,Φ p w v->v.cells.size=1∧(fun i _ v=>v = .agg #[.int .i64 (ae [x,y,z] i)]:PH) i w (.agg v.cells)
 | 0,p,hp,w,v,hv=>by
  simp only [List.getElem?_cons_zero,Option.some.injEq] at hp
  subst hp
  rw [h w v hv];exact ⟨rfl,rfl⟩
 | 1,p,hp,w,v,hv=>by
  simp only [List.getElem?_cons_succ,List.getElem?_cons_zero,Option.some.injEq] at hp
  subst hp
  rw [h' w v hv];exact ⟨rfl,rfl⟩
 | 2,p,hp,w,v,hv=>by
  simp only [List.getElem?_cons_succ,List.getElem?_cons_zero,Option.some.injEq] at hp
  subst hp
  rw [h'' w v hv];exact ⟨rfl,rfl⟩
 | i+3,p,hp,_,_,_=>by simp at hp
end
section
variable {Φ:PH}{p q x n k kq:Nat}{z:Nat->Int}
end
end Go.Proofs.YtomamliepbhegaaGreat.Sym
