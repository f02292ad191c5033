/- The reference's product -/
import Derived.Test.YtomamliepbhegaaGreatRMul
namespace Go.Proofs.YtomamliepbhegaaGreat.Sym
open Go.RowKit
theorem tM (z y:Nat->Int) (l:Nat):∀j p,fy (fun i=>((z i:Int):Rat)) (fun i=>((y i:Int):Rat)) l j p=((eS z y l j p:Int):Rat)
 | 0,_=>rfl
 | j+1,p=>by
  rw [fy,eS,tM z y l j p,Rat.intCast_add]
  congr 1
  split
  ·rw [Rat.intCast_mul]
  ·rfl
theorem acF (z y:Nat->Int) (l j i p:Nat):dh (fun i=>((z i:Int):Rat)) (fun i=>((y i:Int):Rat)) l j i p=((dM z y l j i p:Int):Rat):=by
 rw [dh,dM,tM,Rat.intCast_add]
 congr 1
 split
 ·rw [Rat.intCast_mul]
 ·rfl
section
variable {Φ:PH}{p q x n m k l K kz ky:Nat}{z y:Nat->Int}{P:List Int}
theorem sO (hp:∀w v,Φ p w v->Rw 4 (fun i w v=>al w v ((z i:Int):Rat) k) n w v) (hq:∀w v,Φ q w v->Rw 4 (fun i w v=>al w v ((y i:Int):Rat) l) m w v) (hx:Φ x=fun w v=>Rw 4 (fun i w v=>al w v ((ae P i:Int):Rat) K) P.length w v)
  (hz0:tl z n=n) (hy0:tl y m=m) (hz:∀i,i<n->Bd (z i).natAbs kz) (hy:∀i,i<m->Bd (y i).natAbs ky) (hP:mulL z n y m=P) (hn:n<=1000:=by omega) (hm:m<=1000:=by omega) (hk:k<=8000:=by omega) (hl:l<=8000:=by omega) (hK:K<=8000:=by omega) (hKs:kz+ky+n+1<=K:=by omega) :
  aj Φ Tryz.prog ⟨7,[.fact p,.fact q],[oS x],false⟩:=by
 have hl0:(if n=0∨m=0 then 0 else tl (fun i=>(fy (fun i=>((z i:Int):Rat)) (fun i=>((y i:Int):Rat)) m n i).num) (n+m-1))=P.length:=by
  rw [<- hP,mulL,hz0,hy0]
  by_cases h:n=0∨m=0
  ·rw [if_pos h,if_pos h];rfl
  ·rw [if_neg h,if_neg h,gI]
   refine jG fun h1=>?_
   rw [tM]
   show eS z y m n (n+m-1-1)≠0
   have h2:=Ip (z:=z) (n:=n) (y:=y) (m:=m)
   have h3:=fb z n (by omega)
   have h4:=fb y m (by omega)
   rw [mulL,hz0,hy0,if_neg h,eG,if_pos (by omega)] at h2
   rw [hz0] at h3
   rw [hy0] at h4
   rw [show n+m-1-1=n+m-2 by omega,h2]
   exact Int.mul_ne_zero h3 h4
 have hat:∀i,i<P.length->fy (fun i=>((z i:Int):Rat)) (fun i=>((y i:Int):Rat)) m n i=((ae P i:Int):Rat):=fun i hi=>by
  rw [tM]
  congr 1
  rw [<- hP,mulL,hz0,hy0] at hi ⊢
  by_cases h:n=0∨m=0
  ·rw [if_pos h] at hi;exact absurd hi (Nat.not_lt_zero _)
  ·rw [if_neg h] at hi ⊢
   rw [gI] at hi
   rw [eG,if_pos hi]
 refine aW (acE (Φ:=ph [fun w v=>Rw 4 (fun i w v=>al w v ((z i:Int):Rat) k) n w v,fun w v=>Rw 4 (fun i w v=>al w v ((y i:Int):Rat) l) m w v,fun w v=>Rw 4 (fun i w v=>al w v (fy (fun i=>((z i:Int):Rat)) (fun i=>((y i:Int):Rat)) m n i) K) P.length w v]) (p:=0) (y:=1) (x:=2) (K:=K) ad ad rfl hk hl hK (fun j i p hj hi=>?_) hl0)
  ⟨hp,hq,trivial⟩ ⟨⟨rfl,⟨rfl,rfl,fun w v h=>?_⟩,trivial⟩,trivial⟩
 ·rw [acF]
  exact ⟨(Ir (c:=n) hz hy hj (Nat.le_refl _) hi p).more hKs,lI⟩
 ·have h:Rw 4 (fun i w v=>al w v (fy (fun i=>((z i:Int):Rat)) (fun i=>((y i:Int):Rat)) m n i) K) P.length w v:=h
  rw [hx]
  exact h.to fun i w v hi h=>h.eq (hat i hi)
end
end Go.Proofs.YtomamliepbhegaaGreat.Sym
