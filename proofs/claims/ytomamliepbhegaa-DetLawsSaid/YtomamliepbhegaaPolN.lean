/- Values of polynomials: of Horner's sums, of products, of those that are moved. -/
import Derived.Test.YtomamliepbhegaaPolH
import Derived.Test.YtomamliepbhegaaPolZ
namespace Go.Proofs.Ytomamliepbhegaa.Sym
open Go.RowKit
def ev (x:Rat):Nat->(Nat->Int)->Rat
 | 0,_=>0
 | m+1,z=>(z 0:Rat)+x*ev x m (fun i=>z (i+1))
def hV (u d:Int):Nat->(Nat->Int)->Int
 | 0,_=>0
 | m+1,z=>z 0*d ^ m+u*hV u d m (fun i=>z (i+1))
theorem ML {u d:Int}{x:Rat} (h:x*d=u):∀(m:Nat) (z:Nat->Int),(hV u d m z:Rat)*d=ev x m z*(d:Rat) ^ m
 | 0,z=>by simp [hV,ev]
 | m+1,z=>by
  have:=ML h m fun i=>z (i+1)
  simp only [hV,ev]
  push_cast
  rw [Rat.pow_succ]
  grind
theorem lX {x:Rat}:∀{m:Nat}{z y:Nat->Int},(∀i,i<m->z i=y i)->ev x m z=ev x m y
 | 0,_,_,_=>rfl
 | m+1,z,y,h=>by
  simp only [ev]
  rw [h 0 (by omega),lX (m:=m) fun i hi=>h (i+1) (by omega)]
theorem oE {x:Rat}:∀{m:Nat}{z:Nat->Int},(∀i,i<m->z i=0)->ev x m z=0
 | 0,_,_=>rfl
 | m+1,z,h=>by
  simp only [ev]
  rw [h 0 (by omega),oE (m:=m) fun i hi=>h (i+1) (by omega)]
  grind
theorem MM {x:Rat}:∀{n k:Nat}{z:Nat->Int},(∀i,n<=i->i<n+k->z i=0)->ev x (n+k) z=ev x n z
 | 0,k,z,h=>by rw [Nat.zero_add];exact oE fun i hi=>h i (by omega) (by omega)
 | n+1,k,z,h=>by
  rw [show n+1+k=(n+k)+1 by omega]
  simp only [ev]
  rw [MM (n:=n) fun i h1 h2=>h (i+1) (by omega) (by omega)]
theorem gJ {x:Rat}{n m:Nat}{z:Nat->Int} (hn:∀i,n<=i->z i=0) (h:n<=m):ev x m z=ev x n z:=by
 obtain ⟨k,rfl⟩:=Nat.le.dest h
 exact MM fun i h _=>hn i h
theorem iJ {x:Rat}:∀(m:Nat) (z y:Nat->Int),ev x m (fun i=>z i+y i)=ev x m z+ev x m y
 | 0,_,_=>by simp only [ev];grind
 | m+1,z,y=>by
  simp only [ev]
  rw [iJ m (fun i=>z (i+1)) (fun i=>y (i+1))]
  push_cast
  grind
theorem jI {x:Rat} (c:Int):∀(m:Nat) (z:Nat->Int),ev x m (fun i=>c*z i)=c*ev x m z
 | 0,_=>by simp [ev]
 | m+1,z=>by
  simp only [ev]
  rw [jI c m (fun i=>z (i+1))]
  push_cast
  grind
theorem MN {x:Rat}{b:Nat}{g:Nat->Int} (hg:∀i,b<=i->g i=0):∀{a:Nat}{f:Nat->Int},(∀i,a<=i->f i=0)->ev x (a+b) (conv f g)=ev x a f*ev x b g
 | 0,f,hf=>by
  rw [oE fun i _=>lV (fun i=>hf i (by omega)) i]
  simp [ev]
 | a+1,f,hf=>by
  have h1:=MN (x:=x) hg (a:=a) (f:=fun i=>f (i+1)) fun i hi=>hf (i+1) (by omega)
  have h2:ev x (a+b+1) g=ev x b g:=gJ hg (by omega)
  rw [show a+1+b=(a+b)+1 by omega]
  have e:(fun i=>conv f g (i+1))=fun i=>f 0*g (i+1)+conv (fun x=>f (x+1)) g i:=rfl
  rw [ev,e,iJ (a+b) (fun i=>f 0*g (i+1)) (conv (fun x=>f (x+1)) g),jI (f 0) (a+b) (fun i=>g (i+1)),h1]
  rw [ev] at h2
  simp only [conv,ev]
  push_cast
  grind
theorem ny (x:Rat) (z:Nat->Int) (n:Nat):ev x n (upto n z)=ev x n z:=lX fun _ hi=>el hi
theorem rz (x:Rat) (z:Nat->Int) (n:Nat) (y:Nat->Int) (m:Nat):ev x (mulL z n y m).length (ae (mulL z n y m))=ev x n z*ev x m y:=by
 have h1:=MN (x:=x) (a:=n) (b:=m) (f:=upto n z) (g:=upto m y) (fun i hi=>nw hi) fun i hi=>nw hi
 rw [ny,ny] at h1
 rw [<- h1,<- gJ (x:=x) (fun i hi=>dL hi) (Eo z n y m)]
 exact lX fun i _=>En z n y m i
end Go.Proofs.Ytomamliepbhegaa.Sym
