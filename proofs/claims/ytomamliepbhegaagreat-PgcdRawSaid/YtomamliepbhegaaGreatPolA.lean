/- Polynomials as lists of -/
import Derived.Test.YtomamliepbhegaaGreatBase
namespace Go.Proofs.YtomamliepbhegaaGreat
variable {a b zs:List Int}
def tl (f:Nat->Int):Nat->Nat
 | 0=>0
 | n+1=>if f n=0 then tl f n else n+1
theorem aL (f:Nat->Int):∀n,tl f n<=n
 | 0=>Nat.le_refl _
 | n+1=>by
  unfold tl
  split
  ·exact Nat.le_succ_of_le (aL f n)
  ·exact Nat.le_refl _
theorem gK (f:Nat->Int):∀n i,tl f n<=i->i<n->f i=0
 | 0,i,_,h=>by omega
 | n+1,i,h1,h2=>by
  unfold tl at h1
  split at h1
  ·rename_i h0
   rcases Nat.lt_or_ge i n with h | h
   ·exact gK f n i h1 h
   ·have:i=n:=by omega
    rw [this];exact h0
  ·omega
theorem fb (f:Nat->Int):∀n,0<tl f n->f (tl f n-1)≠0
 | 0,h=>by simp [tl] at h
 | n+1,h=>by
  unfold tl at h ⊢
  split
  ·rename_i h0
   rw [if_pos h0] at h
   exact fb f n h
  ·rename_i h0
   simpa using h0
def ae (zs:List Int) (i:Nat):Int:=zs.getD i 0
theorem ep {i:Nat} (h:zs.length<=i):ae zs i=0:=by
 unfold ae
 rw [List.getD_eq_getElem?_getD,List.getElem?_eq_none h];rfl
def mk (n:Nat) (f:Nat->Int):List Int:=(List.range n).map f
theorem gI (n:Nat) (f:Nat->Int):(mk n f).length=n:=by simp [mk]
theorem eG (n:Nat) (f:Nat->Int) (i:Nat):ae (mk n f) i=if i<n then f i else 0:=by
 unfold ae mk
 rw [List.getD_eq_getElem?_getD,List.getElem?_map]
 split
 ·rename_i h
  rw [List.getElem?_eq_getElem (by simpa using h)];simp
 ·rename_i h
  rw [List.getElem?_eq_none (by simpa using h)];rfl
def aG (zs:List Int):List Int:=zs.take (tl (ae zs) zs.length)
theorem qg (zs:List Int):(aG zs).length=tl (ae zs) zs.length:=by
 rw [aG,List.length_take]
 exact Nat.min_eq_left (aL _ _)
theorem Zo (zs:List Int) (m i:Nat):ae (zs.take m) i=if i<m then ae zs i else 0:=by
 unfold ae
 simp only [List.getD_eq_getElem?_getD,List.getElem?_take]
 split <;> rfl
theorem mz (zs:List Int) (i:Nat):ae (aG zs) i=ae zs i:=by
 rw [aG,Zo]
 split
 ·rfl
 ·rename_i h
  rcases Nat.lt_or_ge i zs.length with h1 | h1
  ·exact (gK (ae zs) _ _ (by omega) h1).symm
  ·exact (ep h1).symm
def mO (zs:List Int):Prop:=0<zs.length->ae zs (zs.length-1)≠0
theorem DQ (zs:List Int):mO (aG zs):=fun h=>by
 rw [mz,qg]
 rw [qg] at h
 exact fb _ _ h
theorem HI  (ha:mO a) (h:∀i,ae a i=ae b i):a.length<=b.length:=by
 rcases Nat.lt_or_ge b.length a.length with hl | hl
 ·exact absurd ((h _).trans (ep (by omega))) (ha (by omega))
 ·exact hl
theorem Zp  (ha:mO a) (hb:mO b) (h:∀i,ae a i=ae b i):a=b:=by
 have hl:a.length=b.length:=Nat.le_antisymm (HI ha h) (HI hb fun i=>(h i).symm)
 apply List.ext_getElem hl
 intro i h1 h2
 have:=h i
 unfold ae at this
 simpa [List.getD_eq_getElem?_getD,List.getElem?_eq_getElem h1,List.getElem?_eq_getElem h2] using this
theorem DO  (h:mO zs):aG zs=zs:=Zp (DQ zs) h (mz zs)
theorem pR {f g:Nat->Int}:∀{n:Nat},(∀i,i<n->f i=g i)->tl f n=tl g n
 | 0,_=>rfl
 | n+1,h=>by
  unfold tl
  rw [h n (Nat.lt_succ_self n),pR fun i hi=>h i (Nat.lt_succ_of_lt hi)]
theorem iE (n:Nat) (f:Nat->Int):(aG (mk n f)).length=tl f n:=by
 rw [qg,gI]
 exact pR fun i hi=>by rw [eG,if_pos hi]
end Go.Proofs.YtomamliepbhegaaGreat
