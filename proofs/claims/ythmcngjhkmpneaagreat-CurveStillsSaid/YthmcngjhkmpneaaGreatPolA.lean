/- Polynomials as lists of whole numbers: what is cut off, lengths, coefficients. -/
import Derived.Test.YthmcngjhkmpneaaGreatBase
namespace Go.Proofs.YthmcngjhkmpneaaGreat
def tl (f:Nat->Int):Nat->Nat
 | 0=>0
 | n+1=>if f n=0 then tl f n else n+1
theorem aV (f:Nat->Int):∀n,tl f n<=n
 | 0=>Nat.le_refl _
 | n+1=>by
  unfold tl
  split
  ·exact Nat.le_succ_of_le (aV f n)
  ·exact Nat.le_refl _
theorem fX (f:Nat->Int):∀n i,tl f n<=i->i<n->f i=0
 | 0,i,_,h=>by omega
 | n+1,i,h1,h2=>by
  unfold tl at h1
  split at h1
  ·rename_i h0
   rcases Nat.lt_or_ge i n with h | h
   ·exact fX f n i h1 h
   ·have:i=n:=by omega
    rw [this];exact h0
  ·omega
theorem gy (f:Nat->Int):∀n,0<tl f n->f (tl f n-1)≠0
 | 0,h=>by simp [tl] at h
 | n+1,h=>by
  unfold tl at h ⊢
  split
  ·rename_i h0
   rw [if_pos h0] at h
   exact gy f n h
  ·rename_i h0
   simpa using h0
def an (zs:List Int) (i:Nat):Int:=zs.getD i 0
theorem H8 {zs:List Int}{i:Nat} (h:zs.length<=i):an zs i=0:=by
 unfold an
 rw [List.getD_eq_getElem?_getD,List.getElem?_eq_none h];rfl
def mk (n:Nat) (f:Nat->Int):List Int:=(List.range n).map f
theorem eM (n:Nat) (f:Nat->Int):(mk n f).length=n:=by simp [mk]
theorem eu (n:Nat) (f:Nat->Int) (i:Nat):an (mk n f) i=if i<n then f i else 0:=by
 unfold an mk
 rw [List.getD_eq_getElem?_getD,List.getElem?_map]
 split
 ·rename_i h
  rw [List.getElem?_eq_getElem (by simpa using h)];simp
 ·rename_i h
  rw [List.getElem?_eq_none (by simpa using h)];rfl
def aP (zs:List Int):List Int:=zs.take (tl (an zs) zs.length)
theorem H9 (zs:List Int):(aP zs).length=tl (an zs) zs.length:=by
 rw [aP,List.length_take]
 exact Nat.min_eq_left (aV _ _)
theorem Ia (zs:List Int) (m i:Nat):an (zs.take m) i=if i<m then an zs i else 0:=by
 unfold an
 simp only [List.getD_eq_getElem?_getD,List.getElem?_take]
 split <;> rfl
theorem kf (zs:List Int) (i:Nat):an (aP zs) i=an zs i:=by
 rw [aP,Ia]
 split
 ·rfl
 ·rename_i h
  rcases Nat.lt_or_ge i zs.length with h1 | h1
  ·exact (fX (an zs) _ _ (by omega) h1).symm
  ·exact (H8 h1).symm
def o5 (zs:List Int):Prop:=0<zs.length->an zs (zs.length-1)≠0
theorem tK (zs:List Int):o5 (aP zs):=fun h=>by
 rw [kf,H9]
 rw [H9] at h
 exact gy _ _ h
theorem K9 {a b:List Int} (ha:o5 a) (h:∀i,an a i=an b i):a.length<=b.length:=by
 rcases Nat.lt_or_ge b.length a.length with hl | hl
 ·exact absurd ((h _).trans (H8 (by omega))) (ha (by omega))
 ·exact hl
theorem Ri {a b:List Int} (ha:o5 a) (hb:o5 b) (h:∀i,an a i=an b i):a=b:=by
 have hl:a.length=b.length:=Nat.le_antisymm (K9 ha h) (K9 hb fun i=>(h i).symm)
 apply List.ext_getElem hl
 intro i h1 h2
 have:=h i
 unfold an at this
 simpa [List.getD_eq_getElem?_getD,List.getElem?_eq_getElem h1,List.getElem?_eq_getElem h2] using this
theorem Qh {zs:List Int} (h:o5 zs):aP zs=zs:=Ri (tK zs) h (kf zs)
theorem mC {f g:Nat->Int}:∀{n:Nat},(∀i,i<n->f i=g i)->tl f n=tl g n
 | 0,_=>rfl
 | n+1,h=>by
  unfold tl
  rw [h n (Nat.lt_succ_self n),mC fun i hi=>h i (Nat.lt_succ_of_lt hi)]
theorem fe (n:Nat) (f:Nat->Int):(aP (mk n f)).length=tl f n:=by
 rw [H9,eM]
 exact mC fun i hi=>by rw [eu,if_pos hi]
end Go.Proofs.YthmcngjhkmpneaaGreat
