/- Polynomials as lists of whole numbers: what is cut off, lengths, coefficients. -/
import Derived.Test.YtbokonbbokhjlaaGreatBase
namespace Go.Proofs.YtbokonbbokhjlaaGreat
def tl (f:Nat->Int):Nat->Nat
 | 0=>0
 | n+1=>if f n=0 then tl f n else n+1
theorem aF (f:Nat->Int):∀n,tl f n<=n
 | 0=>Nat.le_refl _
 | n+1=>by
  unfold tl
  split
  ·exact Nat.le_succ_of_le (aF f n)
  ·exact Nat.le_refl _
theorem fQ (f:Nat->Int):∀n i,tl f n<=i->i<n->f i=0
 | 0,i,_,h=>by omega
 | n+1,i,h1,h2=>by
  unfold tl at h1
  split at h1
  ·rename_i h0
   rcases Nat.lt_or_ge i n with h | h
   ·exact fQ f n i h1 h
   ·have:i=n:=by omega
    rw [this];exact h0
  ·omega
theorem gk (f:Nat->Int):∀n,0<tl f n->f (tl f n-1)≠0
 | 0,h=>by simp [tl] at h
 | n+1,h=>by
  unfold tl at h ⊢
  split
  ·rename_i h0
   rw [if_pos h0] at h
   exact gk f n h
  ·rename_i h0
   simpa using h0
def ae (zs:List Int) (i:Nat):Int:=zs.getD i 0
theorem dC {zs:List Int}{i:Nat} (h:zs.length<=i):ae zs i=0:=by
 unfold ae
 rw [List.getD_eq_getElem?_getD,List.getElem?_eq_none h];rfl
def mk (n:Nat) (f:Nat->Int):List Int:=(List.range n).map f
theorem iG (n:Nat) (f:Nat->Int):(mk n f).length=n:=by simp [mk]
theorem fl (n:Nat) (f:Nat->Int) (i:Nat):ae (mk n f) i=if i<n then f i else 0:=by
 unfold ae mk
 rw [List.getD_eq_getElem?_getD,List.getElem?_map]
 split
 ·rename_i h
  rw [List.getElem?_eq_getElem (by simpa using h)];simp
 ·rename_i h
  rw [List.getElem?_eq_none (by simpa using h)];rfl
def be (zs:List Int):List Int:=zs.take (tl (ae zs) zs.length)
theorem R3 (zs:List Int):(be zs).length=tl (ae zs) zs.length:=by
 rw [be,List.length_take]
 exact Nat.min_eq_left (aF _ _)
theorem R4 (zs:List Int) (m i:Nat):ae (zs.take m) i=if i<m then ae zs i else 0:=by
 unfold ae
 simp only [List.getD_eq_getElem?_getD,List.getElem?_take]
 split <;> rfl
theorem nw (zs:List Int) (i:Nat):ae (be zs) i=ae zs i:=by
 rw [be,R4]
 split
 ·rfl
 ·rename_i h
  rcases Nat.lt_or_ge i zs.length with h1 | h1
  ·exact (fQ (ae zs) _ _ (by omega) h1).symm
  ·exact (dC h1).symm
theorem nD {f g:Nat->Int}:∀{n:Nat},(∀i,i<n->f i=g i)->tl f n=tl g n
 | 0,_=>rfl
 | n+1,h=>by
  unfold tl
  rw [h n (Nat.lt_succ_self n),nD fun i hi=>h i (Nat.lt_succ_of_lt hi)]
theorem gl (n:Nat) (f:Nat->Int):(be (mk n f)).length=tl f n:=by
 rw [R3,iG]
 exact nD fun i hi=>by rw [fl,if_pos hi]
end Go.Proofs.YtbokonbbokhjlaaGreat
