/- Polynomials as lists of whole numbers: what is cut off, lengths, coefficients. -/
import Derived.Test.YtomamliepbhegaaBase
namespace Go.Proofs.Ytomamliepbhegaa
def tl (f:Nat->Int):Nat->Nat
 | 0=>0
 | n+1=>if f n=0 then tl f n else n+1
theorem bC (f:Nat->Int):∀n,tl f n<=n
 | 0=>Nat.le_refl _
 | n+1=>by
  unfold tl
  split
  ·exact Nat.le_succ_of_le (bC f n)
  ·exact Nat.le_refl _
theorem gR (f:Nat->Int):∀n i,tl f n<=i->i<n->f i=0
 | 0,i,_,h=>by omega
 | n+1,i,h1,h2=>by
  unfold tl at h1
  split at h1
  ·rename_i h0
   rcases Nat.lt_or_ge i n with h | h
   ·exact gR f n i h1 h
   ·have:i=n:=by omega
    rw [this];exact h0
  ·omega
theorem fC (f:Nat->Int):∀n,0<tl f n->f (tl f n-1)≠0
 | 0,h=>by simp [tl] at h
 | n+1,h=>by
  unfold tl at h ⊢
  split
  ·rename_i h0
   rw [if_pos h0] at h
   exact fC f n h
  ·rename_i h0
   simpa using h0
def ae (zs:List Int) (i:Nat):Int:=zs.getD i 0
theorem dL {zs:List Int}{i:Nat} (h:zs.length<=i):ae zs i=0:=by
 unfold ae
 rw [List.getD_eq_getElem?_getD,List.getElem?_eq_none h];rfl
def mk (n:Nat) (f:Nat->Int):List Int:=(List.range n).map f
theorem eZ (n:Nat) (f:Nat->Int):(mk n f).length=n:=by simp [mk]
theorem dt (n:Nat) (f:Nat->Int) (i:Nat):ae (mk n f) i=if i<n then f i else 0:=by
 unfold ae mk
 rw [List.getD_eq_getElem?_getD,List.getElem?_map]
 split
 ·rename_i h
  rw [List.getElem?_eq_getElem (by simpa using h)];simp
 ·rename_i h
  rw [List.getElem?_eq_none (by simpa using h)];rfl
def ad (zs:List Int):List Int:=zs.take (tl (ae zs) zs.length)
theorem od (zs:List Int):(ad zs).length=tl (ae zs) zs.length:=by
 rw [ad,List.length_take]
 exact Nat.min_eq_left (bC _ _)
theorem Db (zs:List Int) (m i:Nat):ae (zs.take m) i=if i<m then ae zs i else 0:=by
 unfold ae
 simp only [List.getD_eq_getElem?_getD,List.getElem?_take]
 split <;> rfl
theorem fu (zs:List Int) (i:Nat):ae (ad zs) i=ae zs i:=by
 rw [ad,Db]
 split
 ·rfl
 ·rename_i h
  rcases Nat.lt_or_ge i zs.length with h1 | h1
  ·exact (gR (ae zs) _ _ (by omega) h1).symm
  ·exact (dL h1).symm
def dg (zs:List Int):Prop:=0<zs.length->ae zs (zs.length-1)≠0
theorem Ln (zs:List Int):dg (ad zs):=fun h=>by
 rw [fu,od]
 rw [od] at h
 exact fC _ _ h
theorem th {a b:List Int} (ha:dg a) (h:∀i,ae a i=ae b i):a.length<=b.length:=by
 rcases Nat.lt_or_ge b.length a.length with hl | hl
 ·exact absurd ((h _).trans (dL (by omega))) (ha (by omega))
 ·exact hl
theorem rx {a b:List Int} (ha:dg a) (hb:dg b) (h:∀i,ae a i=ae b i):a=b:=by
 have hl:a.length=b.length:=Nat.le_antisymm (th ha h) (th hb fun i=>(h i).symm)
 apply List.ext_getElem hl
 intro i h1 h2
 have:=h i
 unfold ae at this
 simpa [List.getD_eq_getElem?_getD,List.getElem?_eq_getElem h1,List.getElem?_eq_getElem h2] using this
theorem oe {f g:Nat->Int}:∀{n:Nat},(∀i,i<n->f i=g i)->tl f n=tl g n
 | 0,_=>rfl
 | n+1,h=>by
  unfold tl
  rw [h n (Nat.lt_succ_self n),oe fun i hi=>h i (Nat.lt_succ_of_lt hi)]
theorem iE (n:Nat) (f:Nat->Int):(ad (mk n f)).length=tl f n:=by
 rw [od,eZ]
 exact oe fun i hi=>by rw [dt,if_pos hi]
end Go.Proofs.Ytomamliepbhegaa
