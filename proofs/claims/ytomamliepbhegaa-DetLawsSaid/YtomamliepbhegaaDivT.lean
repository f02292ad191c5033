/- poly.trim told with the row's block; poly.Norm and pdiv.below, whose results lie in new memory. -/
import Derived.Test.YtomamliepbhegaaPolH
import Derived.Test.YtomamliepbhegaaPolW
namespace Go.Proofs.Ytomamliepbhegaa.Sym
open Go.RowKit
theorem Nd {sz m:Nat}:∀{rows:List (List Value)},(∀r,r ∈ rows->r.length=sz)->m<=rows.length->rows.flatten.take (m*sz)=(rows.take m).flatten:=fun {rows} h hm=>by
 have e1:rows.flatten=(rows.take m).flatten ++ (rows.drop m).flatten:=by
  rw [<- List.flatten_append,List.take_append_drop]
 have e2:(rows.take m).flatten.length=m*sz:=by
  rw [fT (sz:=sz) (fun r hr=>h r (List.mem_of_mem_take hr)),List.length_take,Nat.min_eq_left hm]
 rw [e1,<- e2,List.take_left]
theorem aC.take {sz n m c:Nat}{e:TypeId}{F:PH}{w:World}{s:Option Addr} (h:aC sz e F n w (.slice s n c)) (hm:m<=n):aC sz e F m w (.slice s m c):=by
 obtain ⟨rows,hl,hs,ho,hF⟩:=h
 refine ⟨rows.take m,by rw [List.length_take];omega,fun r hr=>hs r (List.mem_of_mem_take hr),⟨⟨by rw [fT (sz:=sz) (fun r hr=>hs r (List.mem_of_mem_take hr)),List.length_take,Nat.min_eq_left (by omega)],?_⟩,fun g cur e' p hg hh x hx=>ho.2 g cur e' p ?_ hh x hx⟩,fun i r hr=>hF i r ?_⟩
 ·rcases ho.1.2 with ⟨h1,h2⟩ | ⟨g,cap,cur,h1,hb,hh,h3,h4,h5,h6⟩
  ·simp only [Value.slice.injEq] at h1
   obtain ⟨rfl,rfl,rfl⟩:=h1
   exact .inl ⟨by rw [show m=0 by omega],by omega⟩
  ·simp only [Value.slice.injEq] at h1
   obtain ⟨rfl,-,rfl⟩:=h1
   refine .inr ⟨g,c,cur,rfl,hb,hh,by omega,h4,h5,?_⟩
   rw [<- Nd hs (by omega),<- h6,List.take_take,Nat.min_eq_left (Nat.mul_le_mul_right _ hm)]
 ·simp only [Value.ownBlock] at hg ⊢
  cases s <;> exact hg
 ·rw [List.getElem?_take] at hr
  split at hr
  ·exact hr
  ·cases hr
section
variable {P:Program}{Φ:PH}{p q x m n c0:Nat}{s0:Option Addr}{a b:Int}
end
section
variable {Φ:PH}{p x n k:Nat}{z:Nat->Int}{F:PH}
end
section
variable {Φ:PH}{p q x n l k:Nat}{J:List Nat}{j:Nat}{z:Nat->Int}{L:List Int}
end
section
variable {Φ:PH}{p q x n l k:Nat}{J:List Nat}{j:Nat}{z:Nat->Int}{L:List Int}
end
section
variable {Φ:PH}{p q x n l k:Nat}{J:List Nat}{j:Nat}{z:Nat->Int}{L:List Int}
end
end Go.Proofs.Ytomamliepbhegaa.Sym
