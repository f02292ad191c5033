/- The reference's product -/
import Derived.Test.YtbjfgffibepmkaaGreatRMul
import Derived.Test.YtbjfgffibepmkaaGreatPolO
import Derived.Test.YtbjfgffibepmkaaGreatPolJ
namespace Go.Proofs.YtbjfgffibepmkaaGreat.Sym
open Go.RowKit
variable {A B:List Int}{c c' k k' n:Nat}
theorem rq (z y:Nat->Int) (l:Nat):∀j p,fg (fun i=>((z i:Int):Rat)) (fun i=>((y i:Int):Rat)) l j p=((dq z y l j p:Int):Rat)
 | 0,_=>rfl
 | j+1,p=>by
  rw [fg,dq,rq z y l j p,Rat.intCast_add]
  congr 1
  split
  ·rw [Rat.intCast_mul]
  ·rfl
theorem Wo (z y:Nat->Int) (l j i p:Nat):db (fun i=>((z i:Int):Rat)) (fun i=>((y i:Int):Rat)) l j i p=((dI z y l j i p:Int):Rat):=by
 rw [db,dI,rq,Rat.intCast_add]
 congr 1
 split
 ·rw [Rat.intCast_mul]
 ·rfl
section
variable {Φ:PH}{p q x m l K kz ky:Nat}{z y:Nat->Int}{P:List Int}
theorem Kv (hp:∀w v,Φ p w v->Rw 4 (fun i w v=>af w v ((z i:Int):Rat) k) n w v) (hq:∀w v,Φ q w v->Rw 4 (fun i w v=>af w v ((y i:Int):Rat) l) m w v) (hx:Φ x=fun w v=>Rw 4 (fun i w v=>af w v ((ae P i:Int):Rat) K) P.length w v)
  (hn:n<=1000) (hm:m<=1000) (hk:k<=8000) (hl:l<=8000) (hK:K<=8000) (hz0:tl z n=n) (hy0:tl y m=m) (hz:∀i,i<n->Bd (z i).natAbs kz) (hy:∀i,i<m->Bd (y i).natAbs ky) (hKs:kz+ky+n+1<=K) (hP:mulL z n y m=P) :
  aj Φ Tryz.prog ⟨52,[.fact p,.fact q],[oS x],false⟩:=by
 have hl0:(if n=0∨m=0 then 0 else tl (fun i=>(fg (fun i=>((z i:Int):Rat)) (fun i=>((y i:Int):Rat)) m n i).num) (n+m-1))=P.length:=by
  rw [<- hP,mulL,hz0,hy0]
  by_cases h:n=0∨m=0
  ·rw [if_pos h,if_pos h];rfl
  ·rw [if_neg h,if_neg h,dC]
   refine mc fun h1=>?_
   rw [rq]
   show dq z y m n (n+m-1-1)≠0
   have h2:=CA (z:=z) (n:=n) (y:=y) (m:=m)
   have h3:=gE z n (by omega)
   have h4:=gE y m (by omega)
   rw [mulL,hz0,hy0,if_neg h,cM,if_pos (by omega)] at h2
   rw [hz0] at h3
   rw [hy0] at h4
   rw [show n+m-1-1=n+m-2 by omega,h2]
   exact Int.mul_ne_zero h3 h4
 have hat:∀i,i<P.length->fg (fun i=>((z i:Int):Rat)) (fun i=>((y i:Int):Rat)) m n i=((ae P i:Int):Rat):=fun i hi=>by
  rw [rq]
  congr 1
  rw [<- hP,mulL,hz0,hy0] at hi ⊢
  by_cases h:n=0∨m=0
  ·rw [if_pos h] at hi;exact absurd hi (Nat.not_lt_zero _)
  ·rw [if_neg h] at hi ⊢
   rw [dC] at hi
   rw [cM,if_pos hi]
 refine aT (Wn (Φ:=ph [fun w v=>Rw 4 (fun i w v=>af w v ((z i:Int):Rat) k) n w v,fun w v=>Rw 4 (fun i w v=>af w v ((y i:Int):Rat) l) m w v,fun w v=>Rw 4 (fun i w v=>af w v (fg (fun i=>((z i:Int):Rat)) (fun i=>((y i:Int):Rat)) m n i) K) P.length w v]) (p:=0) (y:=1) (x:=2) (K:=K) ad ad rfl hk hl hK (fun j i p hj hi=>?_) hl0)
  ⟨hp,hq,trivial⟩ ⟨⟨rfl,⟨rfl,rfl,fun w v h=>?_⟩,trivial⟩,trivial⟩
 ·rw [Wo]
  exact ⟨(CB (c:=n) hz hy hj (Nat.le_refl _) hi p).more hKs,gF (by omega)⟩
 ·have h:Rw 4 (fun i w v=>af w v (fg (fun i=>((z i:Int):Rat)) (fun i=>((y i:Int):Rat)) m n i) K) P.length w v:=h
  rw [hx]
  exact h.to fun i w v hi h=>h.eq (hat i hi)
end
def aG (i r:Nat):Nat:=if r<i then r else r+1
def mnr (M:Nat->Nat->List Int) (i k r c:Nat):List Int:=M (aG i r) (aG k c)
def aP (A B:List Int):List Int:=an (mk (max A.length B.length) fun i=>ae A i+ae B i)
def bK (A:List Int):List Int:=mk A.length fun i=>-(ae A i)
def ah (A B:List Int):List Int:=mulL (ae A) A.length (ae B) B.length
def gY (k:Nat) (A:List Int):List Int:=if k % 2=1 then bK A else A
def bI (a d:Nat->List Int):Nat->List Int
 | 0=>[]
 | k+1=>aP (bI a d k) (gY k (ah (a k) (d k)))
def aI:Nat->(Nat->Nat->List Int)->List Int
 | 0,_=>[1]
 | n+1,M=>bI (M 0) (fun k=>aI n (mnr M 0 k)) (n+1)
theorem Kq  (h:cG A):cG (bK A):=fun h0=>by
 rw [bK,dC] at h0 ⊢
 rw [cM,if_pos (by omega)]
 have:=h h0
 omega
theorem qa (A B:List Int):cG (aP A B):=gX _
theorem tq (A B:List Int):(aP A B).length<=max A.length B.length:=by
 rw [aP,eQ]
 exact bi _ _
theorem Kr (a d:Nat->List Int):∀k,cG (bI a d k)
 | 0=>fun h=>absurd h (Nat.lt_irrefl 0)
 | _+1=>qa _ _
theorem Ks:∀n M,cG (aI n M)
 | 0,_=>fun _=>(by decide:ae [1] 0≠0)
 | _+1,_=>Kr _ _ _
theorem qb  (h:cG A):tl (ae A) A.length=A.length:=mc h
theorem qc (A:List Int) (i:Nat):ae (bK A) i = -(ae A i):=by
 rw [bK,cM]
 split
 ·rfl
 ·rw [eT];rfl
structure EOk (c k:Nat) (A:List Int):Prop where
 len:A.length<=c
 nrm:cG A
 bd:∀i,Bd (ae A i).natAbs k
theorem EOk.more  (h:EOk c k A) (hc:c<=c') (hk:k<=k'):EOk c' k' A:=⟨Nat.le_trans h.len hc,h.nrm,fun i=>(h.bd i).more hk⟩
theorem EOk.mul  (h:EOk c k A) (g:EOk c' k' B):EOk (c+c') (k+k'+c) (ah A B):=by
 refine ⟨?_,nG _ _ _ _,fun i=>(Kt (fun i _=>h.bd i) (fun i _=>g.bd i) i).more (by have:=h.len;omega)⟩
 have h1:=h.len
 have h2:=g.len
 have e1:=qb h.nrm
 have e2:=qb g.nrm
 rcases Nat.eq_zero_or_pos A.length with h0 | h0
 ·rw [ah,mulL,e1,if_pos (.inl h0)]
  exact Nat.zero_le _
 ·rcases Nat.eq_zero_or_pos B.length with g0 | g0
  ·rw [ah,mulL,e1,e2,if_pos (.inr g0)]
   exact Nat.zero_le _
  ·rw [ah,zj]
   omega
theorem EOk.add  (h:EOk c k A) (g:EOk c k B):EOk c (k+1) (aP A B):=by
 refine ⟨Nat.le_trans (tq A B) (by have:=h.len;have:=g.len;omega),qa _ _,fun i=>?_⟩
 rw [aP,fM,cM]
 split
 ·exact (Bd.tr (h.bd i) (g.bd i)).le (Int.natAbs_add_le _ _)
 ·exact Nat.pow_pos (by omega)
theorem EOk.neg  (h:EOk c k A):EOk c k (bK A):=⟨by rw [bK,dC];exact h.len,Kq h.nrm,fun i=>by rw [qc,Int.natAbs_neg];exact h.bd i⟩
theorem EOk.mj  (h:EOk c k A) (j:Nat):EOk c k (gY j A):=by
 unfold gY
 split
 ·exact h.neg
 ·exact h
theorem EOk.nil (c k:Nat):EOk c k []:=⟨Nat.zero_le _,fun h=>absurd h (Nat.lt_irrefl 0),fun i=>by rw [eT (h:=(Nat.zero_le _))];exact Nat.pow_pos (by omega)⟩
theorem qe {a d:Nat->List Int}{c k c' k' n:Nat} (ha:∀j,j<n->EOk c k (a j)) (hd:∀j,j<n->EOk c' k' (d j)):∀j,j<=n->EOk (c+c') (k+k'+c+j) (bI a d j)
 | 0,_=>EOk.nil _ _
 | j+1,hj=>((qe ha hd j (by omega)).add ((((ha j (by omega)).mul (hd j (by omega))).mj j).more (Nat.le_refl _) (by omega))).more (Nat.le_refl _) (by omega)
def bD (c k:Nat):Nat->Nat
 | 0=>1
 | n+1=>bD c k n+k+c+(n+1)
theorem nH {c k:Nat}:∀(n:Nat) (M:Nat->Nat->List Int),(∀i j,i<n->j<n->EOk c k (M i j))->EOk (n*c+1) (bD c k n) (aI n M)
 | 0,M,_=>⟨by rw [aI];exact Nat.le_add_left 1 _,Ks 0 M,fun i=>by
  match i with
  | 0=>exact (show (1:Nat)<4294967296 ^ 1 by decide)
  | i+1=>exact Nat.pow_pos (by omega)⟩
 | n+1,M,h=>by
  have h2:=qe (n:=n+1) (a:=M 0) (d:=fun k=>aI n (mnr M 0 k)) (fun j hj=>h 0 j (by omega) hj) (fun j hj=>nH n (mnr M 0 j) fun i l hi hl=>h _ _ (by unfold aG;split <;> omega) (by unfold aG;split <;> omega)) (n+1) (Nat.le_refl _)
  exact h2.more (by rw [Nat.succ_mul];omega) (by rw [bD];omega)
section
variable {Φ:PH}{p q x l K:Nat}
theorem cH  (hp:∀w v,Φ p w v->Rw 4 (fun i w v=>af w v ((ae A i:Int):Rat) k) A.length w v) (hq:∀w v,Φ q w v->Rw 4 (fun i w v=>af w v ((ae B i:Int):Rat) l) B.length w v) (hx:Φ x=fun w v=>Rw 4 (fun i w v=>af w v ((ae (ah A B) i:Int):Rat) K) (ah A B).length w v){ka:Nat} (a:EOk c ka A) (b:EOk c' k' B) (hc:c<=1000:=by omega) (hc':c'<=1000:=by omega) (hk:k<=8000:=by omega) (hl:l<=8000:=by omega) (hK:K<=8000:=by omega) (hKs:ka+k'+c+1<=K:=by omega) :
  aj Φ Tryz.prog ⟨52,[.fact p,.fact q],[oS x],false⟩:=
 Kv (z:=ae A) (y:=ae B) (n:=A.length) (m:=B.length) (k:=k) (l:=l) (K:=K) hp hq hx (Nat.le_trans a.len hc) (Nat.le_trans b.len hc') hk hl hK (qb a.nrm) (qb b.nrm) (fun i _=>a.bd i) (fun i _=>b.bd i) (by have:=a.len;omega) rfl
end
def vL (t:Rat) (A:List Int):Rat:=ev t A.length (ae A)
theorem tt  (hA:cG A) (hB:cG B) (h:∀t,vL t A=vL t B):A=B:=nJ hA hB fun i=>by
 have e:∀L:List Int,L.length<=max A.length B.length->∀t,ev t (max A.length B.length) (ae L)=vL t L:=fun L hL t=>ji (fun i hi=>eT (h:=hi)) hL
 by_cases hi:i<max A.length B.length
 ·exact yi (n:=max A.length B.length) (fun t=>by rw [e A (Nat.le_max_left _ _),e B (Nat.le_max_right _ _),h]) i hi
 ·rw [eT,eT]
section
variable (t:Rat)(A B:List Int)
theorem zk:vL t (aP A B)=vL t A+vL t B:=by
 rw [vL,aP,zm,kF,ji (fun i hi=>eT (h:=hi)) (Nat.le_max_left _ _),ji (fun i hi=>eT (h:=hi)) (Nat.le_max_right _ _)]
 rfl
theorem Kw:vL t (bK A) = -vL t A:=by
 rw [vL,show (bK A).length=A.length from dC _ _,show ae (bK A)=fun i=>(-1)*ae A i from funext fun i=>by rw [qc,Int.neg_one_mul],mm,vL]
 grind
theorem Kx:vL t (ah A B)=vL t A*vL t B:=zn _ _ _ _ _
end
def zo (a d:Nat->Rat):Nat->Rat
 | 0=>0
 | k+1=>zo a d k+(if k % 2=1 then -(a k*d k) else a k*d k)
def dT:Nat->(Nat->Nat->Rat)->Rat
 | 0,_=>1
 | n+1,a=>zo (a 0) (fun k=>dT n fun r c=>a (aG 0 r) (aG k c)) (n+1)
section
variable (a:Nat->Nat->Rat)
end
def put {α:Type} (i:Nat) (x:α) (a:Nat->α) (r:Nat):α:=if r=i then x else a r
theorem four {i:Nat} (hn:n<=4) (hi:i<n):(n=1∨n=2∨n=3∨n=4)∧(i=0∨i=1∨i=2∨i=3):=by omega
section
variable {a:Nat->Nat->Rat}{i:Nat}
end
theorem et  (h:cG A):an (mk A.length (ae A))=A:=nJ (gX _) h fun i=>by
 rw [fM,cM]
 split
 ·rfl
 ·exact (eT).symm
theorem jI (t:Rat) (n:Nat) (z:Nat->Int):vL t (an (mk n z))=ev t n z:=zm t n z
theorem qf (t:Rat){m:Nat} (z:Nat->Int) (h:n<=m):ev t m (upto n z)=ev t n z:=by
 rw [ji (fun i hi=>jF hi) h,kG]
theorem Ky (t:Rat) (n:Nat) (z:Nat->Int):ev t n (fun i=>-(z i)) = -ev t n z:=by
 rw [show (fun i=>-(z i))=fun i=>(-1)*z i from funext fun i=>(Int.neg_one_mul _).symm,mm]
 grind
section
variable {z y:Nat->Int}{m:Nat}
theorem Kz (hA:an (mk n z)=A) (hB:an (mk m y)=B):mulL z n y m=ah A B:=by
 subst hA hB
 exact tt (nG _ _ _ _) (nG _ _ _ _) fun t=>by rw [Kx,jI,jI];exact zn t z n y m
theorem KA (hA:an (mk n z)=A) (hB:an (mk m y)=B):an (mk (max n m) fun i=>upto n z i+upto m y i)=aP A B:=by
 subst hA hB
 exact tt (gX _) (qa _ _) fun t=>by rw [zk,jI,jI,jI,kF,qf t z (Nat.le_max_left _ _),qf t y (Nat.le_max_right _ _)]
theorem KB (hA:an (mk n z)=A) (hB:an (mk m y)=B):an (mk (max n m) fun i=>upto n z i-upto m y i)=aP A (bK B):=by
 subst hA hB
 refine tt (gX _) (qa _ _) fun t=>?_
 rw [zk,Kw,jI,jI,jI,show (fun i=>upto n z i-upto m y i)=fun i=>upto n z i + -(upto m y i) from funext fun i=>Int.sub_eq_add_neg,kF,Ky,qf t z (Nat.le_max_left _ _),qf t y (Nat.le_max_right _ _)]
end
section
variable {Φ:PH}{p q x l K m:Nat}{z y:Nat->Int}
theorem qg {c:Nat} (hp:∀w v,Φ p w v->Rw 2 (If z k) n w v) (hq:∀w v,Φ q w v->Rw 2 (If y l) m w v) (hA:an (mk n z)=A) (hB:an (mk m y)=B) (hx:Φ x=Rw 2 (Nf (ae (ah A B)) K) (ah A B).length) (hn:n<=c) (hm:m<=400000) (hb:∀i,Bd (ae (ah A B) i).natAbs K) (hc:c<=1000:=by omega) (hk:k<=100000:=by omega) (hl:l<=100000:=by omega) :
  aj Φ Tryz.prog ⟨142,[.fact p,.fact q],[oS x],false⟩:=
 aT (KC (Φ:=ph [fun w v=>Rw 2 (fun i w v=>aF w v (z i) k) n w v,fun w v=>Rw 2 (fun i w v=>aF w v (y i) l) m w v,fun w v=>Rw 2 (fun i w v=>ak w v (ae (ah A B) i) (k+l+c+1)) (ah A B).length w v]) (p:=0) (q:=1) (x:=2) ad ad rfl hn hm hc hk hl (Kz hA hB)) ⟨hp,hq,trivial⟩ ⟨⟨rfl,⟨rfl,rfl,fun w v h=>by rw [hx];exact Rw.to (sz:=2) (n:=(ah A B).length) (F:=fun i w v=>ak w v (ae (ah A B) i) (k+l+c+1)) h fun i w v _ h=>ak.re h (hb i)⟩,trivial⟩,trivial⟩
theorem zp (hp:∀w v,Φ p w v->Rw 2 (If z k) n w v) (hq:∀w v,Φ q w v->Rw 2 (If y l) m w v) (hA:an (mk n z)=A) (hB:an (mk m y)=B) (hx:Φ x=Rw 2 (Nf (ae (aP A B)) K) (aP A B).length) (hn:n<=1000000) (hm:m<=1000000) (hb:∀i,Bd (ae (aP A B) i).natAbs K) (hk:k<=200000:=by omega) (hl:l<=200000:=by omega) :
  aj Φ Tryz.prog ⟨141,[.fact p,.fact q],[oS x],false⟩:=
 aT (KD (Φ:=ph [fun w v=>Rw 2 (fun i w v=>aF w v (z i) k) n w v,fun w v=>Rw 2 (fun i w v=>aF w v (y i) l) m w v,fun w v=>Rw 2 (fun i w v=>ak w v (ae (aP A B) i) (k+l+1)) (aP A B).length w v]) (p:=0) (q:=1) (x:=2) ad ad rfl hn hm hk hl (KA hA hB)) ⟨hp,hq,trivial⟩ ⟨⟨rfl,⟨rfl,rfl,fun w v h=>by rw [hx];exact Rw.to (sz:=2) (n:=(aP A B).length) (F:=fun i w v=>ak w v (ae (aP A B) i) (k+l+1)) h fun i w v _ h=>ak.re h (hb i)⟩,trivial⟩,trivial⟩
theorem tu (hp:∀w v,Φ p w v->Rw 2 (fun i w v=>aF w v (z i) k) n w v) (hq:∀w v,Φ q w v->Rw 2 (fun i w v=>aF w v (y i) l) m w v) (hA:an (mk n z)=A) (hB:an (mk m y)=B) (hx:Φ x=fun w v=>Rw 2 (fun i w v=>ak w v (ae (aP A (bK B)) i) K) (aP A (bK B)).length w v) (hn:n<=1000000) (hm:m<=1000000) (hb:∀i,Bd (ae (aP A (bK B)) i).natAbs K) (hk:k<=200000:=by omega) (hl:l<=200000:=by omega):aj Φ Tryz.prog ⟨62,[.fact p,.fact q],[oS x],false⟩:=aT (KE (Φ:=ph [fun w v=>Rw 2 (fun i w v=>aF w v (z i) k) n w v,fun w v=>Rw 2 (fun i w v=>aF w v (y i) l) m w v,fun w v=>Rw 2 (fun i w v=>ak w v (ae (aP A (bK B)) i) (k+l+1)) (aP A (bK B)).length w v]) (p:=0) (q:=1) (x:=2) ad ad rfl hn hm hk hl (KB hA hB)) ⟨hp,hq,trivial⟩ ⟨⟨rfl,⟨rfl,rfl,fun w v h=>by rw [hx];exact Rw.to (sz:=2) (n:=(aP A (bK B)).length) (F:=fun i w v=>ak w v (ae (aP A (bK B)) i) (k+l+1)) h fun i w v _ h=>ak.re h (hb i)⟩,trivial⟩,trivial⟩
end
end Go.Proofs.YtbjfgffibepmkaaGreat.Sym
