/- The reference's product of polynomials with whole coefficients. -/
import Derived.Test.YtomamliepbhegaaRMul
import Derived.Test.YtomamliepbhegaaPolH
namespace Go.Proofs.Ytomamliepbhegaa.Sym
open Go.RowKit
theorem LQ (z y:Nat->Int) (l:Nat):∀j p,KZ (fun i=>((z i:Int):Rat)) (fun i=>((y i:Int):Rat)) l j p=((cL z y l j p:Int):Rat)
 | 0,_=>rfl
 | j+1,p=>by
  rw [KZ,cL,LQ z y l j p,Rat.intCast_add]
  congr 1
  split
  ·rw [Rat.intCast_mul]
  ·rfl
theorem Gu (z y:Nat->Int) (l j i p:Nat):KX (fun i=>((z i:Int):Rat)) (fun i=>((y i:Int):Rat)) l j i p=((co z y l j i p:Int):Rat):=by
 rw [KX,co,LQ,Rat.intCast_add]
 congr 1
 split
 ·rw [Rat.intCast_mul]
 ·rfl
section
variable {Φ:PH}{p q x n m k l K kz ky:Nat}{z y:Nat->Int}{P:List Int}
theorem yo (hp:∀w v,Φ p w v->Rw 4 (fun i w v=>am w v ((z i:Int):Rat) k) n w v) (hq:∀w v,Φ q w v->Rw 4 (fun i w v=>am w v ((y i:Int):Rat) l) m w v) (hx:Φ x=fun w v=>Rw 4 (fun i w v=>am w v ((ae P i:Int):Rat) K) P.length w v)
  (hn:n<=1000) (hm:m<=1000) (hk:k<=8000) (hl:l<=8000) (hK:K<=8000) (hz0:tl z n=n) (hy0:tl y m=m) (hz:∀i,i<n->Bd (z i).natAbs kz) (hy:∀i,i<m->Bd (y i).natAbs ky) (hKs:kz+ky+n+1<=K) (hP:mulL z n y m=P) :
  aj Φ Try.prog ⟨32,[.fact p,.fact q],[oS x],false⟩:=by
 have hl0:(if n=0∨m=0 then 0 else tl (fun i=>(KZ (fun i=>((z i:Int):Rat)) (fun i=>((y i:Int):Rat)) m n i).num) (n+m-1))=P.length:=by
  rw [<- hP,mulL,hz0,hy0]
  by_cases h:n=0∨m=0
  ·rw [if_pos h,if_pos h];rfl
  ·rw [if_neg h,if_neg h,eZ]
   refine mS fun h1=>?_
   rw [LQ]
   show cL z y m n (n+m-1-1)≠0
   have h2:=tU (z:=z) (n:=n) (y:=y) (m:=m) (by omega) (by omega)
   have h3:=fC z n (by omega)
   have h4:=fC y m (by omega)
   rw [mulL,hz0,hy0,if_neg h,dt,if_pos (by omega)] at h2
   rw [hz0] at h3
   rw [hy0] at h4
   rw [show n+m-1-1=n+m-2 by omega,h2]
   exact Int.mul_ne_zero h3 h4
 have hat:∀i,i<P.length->KZ (fun i=>((z i:Int):Rat)) (fun i=>((y i:Int):Rat)) m n i=((ae P i:Int):Rat):=fun i hi=>by
  rw [LQ]
  congr 1
  rw [<- hP,mulL,hz0,hy0] at hi ⊢
  by_cases h:n=0∨m=0
  ·rw [if_pos h] at hi;exact absurd hi (Nat.not_lt_zero _)
  ·rw [if_neg h] at hi ⊢
   rw [eZ] at hi
   rw [dt,if_pos hi]
 refine aT (Gt (Φ:=ph [fun w v=>Rw 4 (fun i w v=>am w v ((z i:Int):Rat) k) n w v,fun w v=>Rw 4 (fun i w v=>am w v ((y i:Int):Rat) l) m w v,fun w v=>Rw 4 (fun i w v=>am w v (KZ (fun i=>((z i:Int):Rat)) (fun i=>((y i:Int):Rat)) m n i) K) P.length w v]) (p:=0) (y:=1) (x:=2) (K:=K) aa aa rfl (by omega) (by omega) hk hl hK (by omega) (fun j i p hj hi=>?_) hl0)
  ⟨hp,hq,trivial⟩ ⟨⟨rfl,⟨rfl,rfl,fun w v h=>?_⟩,trivial⟩,trivial⟩
 ·rw [Gu]
  exact ⟨(tV (c:=n) hz hy hj (Nat.le_refl _) hi p).more hKs,jv (by omega)⟩
 ·have h:Rw 4 (fun i w v=>am w v (KZ (fun i=>((z i:Int):Rat)) (fun i=>((y i:Int):Rat)) m n i) K) P.length w v:=h
  rw [hx]
  exact h.to fun i w v hi h=>h.eq (hat i hi)
end
end Go.Proofs.Ytomamliepbhegaa.Sym
