/- Determinants of polynomials by their first rows, told by lists of numbers: lengths, sizes. Determinants of polynomials told by their values: what changed rows, sums of rows, columns do to them (up to four rows). A determinant along any row, told by lists. Package poly's functions told by lists, over rows as they came in. -/
import Derived.Test.YtomamliepbhegaaRMulI
import Derived.Test.YtomamliepbhegaaDivN
import Derived.Test.YtomamliepbhegaaPolO
import Derived.Test.YtomamliepbhegaaPolJ
import Derived.Test.YtomamliepbhegaaPolH
namespace Go.Proofs.Ytomamliepbhegaa.Sym
open Go.RowKit
def ab (i r:Nat):Nat:=if r<i then r else r+1
def mnr (M:Nat->Nat->List Int) (i k r c:Nat):List Int:=M (ab i r) (ab k c)
def bo (A B:List Int):List Int:=ad (mk (max A.length B.length) fun i=>ae A i+ae B i)
def bK (A:List Int):List Int:=mk A.length fun i=>-(ae A i)
def aK (A B:List Int):List Int:=mulL (ae A) A.length (ae B) B.length
def Le (k:Nat) (A:List Int):List Int:=if k % 2=1 then bK A else A
def KS (a d:Nat->List Int):Nat->List Int
 | 0=>[]
 | k+1=>bo (KS a d k) (Le k (aK (a k) (d k)))
def an:Nat->(Nat->Nat->List Int)->List Int
 | 0,_=>[1]
 | n+1,M=>KS (M 0) (fun k=>an n (mnr M 0 k)) (n+1)
theorem mV {A:List Int} (h:dg A):dg (bK A):=fun h0=>by
 rw [bK,eZ] at h0 ⊢
 rw [dt,if_pos (by omega)]
 have:=h h0
 omega
theorem jx (A B:List Int):dg (bo A B):=Ln _
theorem qU (A B:List Int):(bo A B).length<=max A.length B.length:=by
 rw [bo,iE]
 exact bC _ _
theorem yk (a d:Nat->List Int):∀k,dg (KS a d k)
 | 0=>fun h=>absurd h (Nat.lt_irrefl 0)
 | _+1=>jx _ _
theorem jy:∀n M,dg (an n M)
 | 0,_=>fun _=>(by decide:ae [1] 0≠0)
 | _+1,_=>yk _ _ _
theorem LL {A:List Int} (h:dg A):tl (ae A) A.length=A.length:=mS h
theorem mW (A:List Int) (i:Nat):ae (bK A) i = -(ae A i):=by
 rw [bK,dt]
 split
 ·rfl
 ·rw [dL (by omega)];rfl
structure EOk (c k:Nat) (A:List Int):Prop where
 len:A.length<=c
 nrm:dg A
 bd:∀i,Bd (ae A i).natAbs k
theorem EOk.more {c k c' k':Nat}{A:List Int} (h:EOk c k A) (hc:c<=c') (hk:k<=k'):EOk c' k' A:=⟨Nat.le_trans h.len hc,h.nrm,fun i=>(h.bd i).more hk⟩
theorem EOk.mul {c k c' k':Nat}{A B:List Int} (h:EOk c k A) (g:EOk c' k' B):EOk (c+c') (k+k'+c) (aK A B):=by
 refine ⟨?_,mX _ _ _ _,fun i=>(ym (fun i _=>h.bd i) (fun i _=>g.bd i) i).more (by have:=h.len;omega)⟩
 have h1:=h.len
 have h2:=g.len
 have e1:=LL h.nrm
 have e2:=LL g.nrm
 rcases Nat.eq_zero_or_pos A.length with h0 | h0
 ·rw [aK,mulL,e1,if_pos (.inl h0)]
  exact Nat.zero_le _
 ·rcases Nat.eq_zero_or_pos B.length with g0 | g0
  ·rw [aK,mulL,e1,e2,if_pos (.inr g0)]
   exact Nat.zero_le _
  ·rw [aK,qV (by omega) (by omega)]
   omega
theorem EOk.add {c k:Nat}{A B:List Int} (h:EOk c k A) (g:EOk c k B):EOk c (k+1) (bo A B):=by
 refine ⟨Nat.le_trans (qU A B) (by have:=h.len;have:=g.len;omega),jx _ _,fun i=>?_⟩
 rw [bo,fu,dt]
 split
 ·exact (Bd.mZ (h.bd i) (g.bd i)).le (Int.natAbs_add_le _ _)
 ·exact Nat.pow_pos (by omega)
theorem EOk.neg {c k:Nat}{A:List Int} (h:EOk c k A):EOk c k (bK A):=⟨by rw [bK,eZ];exact h.len,mV h.nrm,fun i=>by rw [mW,Int.natAbs_neg];exact h.bd i⟩
theorem EOk.gE {c k:Nat}{A:List Int} (h:EOk c k A) (j:Nat):EOk c k (Le j A):=by
 unfold Le
 split
 ·exact h.neg
 ·exact h
theorem EOk.nil (c k:Nat):EOk c k []:=⟨Nat.zero_le _,fun h=>absurd h (Nat.lt_irrefl 0),fun i=>by rw [dL (Nat.zero_le _)];exact Nat.pow_pos (by omega)⟩
theorem LM {a d:Nat->List Int}{c k c' k' n:Nat} (ha:∀j,j<n->EOk c k (a j)) (hd:∀j,j<n->EOk c' k' (d j)):∀j,j<=n->EOk (c+c') (k+k'+c+j) (KS a d j)
 | 0,_=>EOk.nil _ _
 | j+1,hj=>((LM ha hd j (by omega)).add ((((ha j (by omega)).mul (hd j (by omega))).gE j).more (Nat.le_refl _) (by omega))).more (Nat.le_refl _) (by omega)
def bD (c k:Nat):Nat->Nat
 | 0=>1
 | n+1=>bD c k n+k+c+(n+1)
theorem fU {c k:Nat}:∀(n:Nat) (M:Nat->Nat->List Int),(∀i j,i<n->j<n->EOk c k (M i j))->EOk (n*c+1) (bD c k n) (an n M)
 | 0,M,_=>⟨by rw [an];exact Nat.le_add_left 1 _,jy 0 M,fun i=>by
  match i with
  | 0=>exact (show (1:Nat)<4294967296 ^ 1 by decide)
  | i+1=>exact Nat.pow_pos (by omega)⟩
 | n+1,M,h=>by
  have h2:=LM (n:=n+1) (a:=M 0) (d:=fun k=>an n (mnr M 0 k)) (fun j hj=>h 0 j (by omega) hj) (fun j hj=>fU n (mnr M 0 j) fun i l hi hl=>h _ _ (by unfold ab;split <;> omega) (by unfold ab;split <;> omega)) (n+1) (Nat.le_refl _)
  exact h2.more (by rw [Nat.succ_mul];omega) (by rw [bD];omega)
section
variable {Φ:PH}{p q x k l K:Nat}{A B:List Int}
end
def vL (t:Rat) (A:List Int):Rat:=ev t A.length (ae A)
theorem jH {A B:List Int} (hA:dg A) (hB:dg B) (h:∀t,vL t A=vL t B):A=B:=rx hA hB fun i=>by
 have e:∀L:List Int,L.length<=max A.length B.length->∀t,ev t (max A.length B.length) (ae L)=vL t L:=fun L hL t=>gJ (fun i hi=>dL hi) hL
 by_cases hi:i<max A.length B.length
 ·exact zF (n:=max A.length B.length) (fun t=>by rw [e A (Nat.le_max_left _ _),e B (Nat.le_max_right _ _),h]) i hi
 ·rw [dL (by omega),dL (by omega)]
section
variable (t:Rat) (A B:List Int)
theorem li:vL t (bo A B)=vL t A+vL t B:=by
 rw [vL,bo,ry,iJ,gJ (fun i hi=>dL hi) (Nat.le_max_left _ _),gJ (fun i hi=>dL hi) (Nat.le_max_right _ _)]
 rfl
theorem ns:vL t (bK A) = -vL t A:=by
 rw [vL,show (bK A).length=A.length from eZ _ _,show ae (bK A)=fun i=>(-1)*ae A i from funext fun i=>by rw [mW,Int.neg_one_mul],jI,vL]
 grind
theorem nt:vL t (aK A B)=vL t A*vL t B:=rz _ _ _ _ _
theorem rA (k:Nat):vL t (Le k A)=if k % 2=1 then -vL t A else vL t A:=by
 unfold Le
 split
 ·exact ns t A
 ·rfl
theorem qQ:vL t []=0:=rfl
end
def fX (a d:Nat->Rat):Nat->Rat
 | 0=>0
 | k+1=>fX a d k+(if k % 2=1 then -(a k*d k) else a k*d k)
def dT:Nat->(Nat->Nat->Rat)->Rat
 | 0,_=>1
 | n+1,a=>fX (a 0) (fun k=>dT n fun r c=>a (ab 0 r) (ab k c)) (n+1)
theorem rB (t:Rat) (a d:Nat->List Int):∀k,vL t (KS a d k)=fX (fun j=>vL t (a j)) (fun j=>vL t (d j)) k
 | 0=>rfl
 | k+1=>by rw [KS,li,rB t a d k,rA,nt,fX]
theorem nu (t:Rat):∀n M,vL t (an n M)=dT n fun i j=>vL t (M i j)
 | 0,_=>by simp [vL,an,dT,ev,ae];exact Rat.add_zero _
 | n+1,M=>by
  rw [an,rB,dT]
  simp only [nu t n,mnr]
section
variable (a:Nat->Nat->Rat)
theorem zH:dT 1 a=a 0 0:=by simp [dT,fX];try grind
theorem dT2:dT 2 a=a 0 0*a 1 1-a 0 1*a 1 0:=by simp [dT,fX,ab];grind
theorem dT3:dT 3 a=a 0 0*(a 1 1*a 2 2-a 1 2*a 2 1)-a 0 1*(a 1 0*a 2 2-a 1 2*a 2 0)+a 0 2*(a 1 0*a 2 1-a 1 1*a 2 0):=by simp [dT,fX,ab];grind
theorem zI:dT 4 a=a 0 0*dT 3 (fun r c=>a (ab 0 r) (ab 0 c))-a 0 1*dT 3 (fun r c=>a (ab 0 r) (ab 1 c))+a 0 2*dT 3 (fun r c=>a (ab 0 r) (ab 2 c))-a 0 3*dT 3 (fun r c=>a (ab 0 r) (ab 3 c)):=by
 rw [dT]
 simp only [fX]
 simp
 grind
end
def swp {α:Type} (i k:Nat) (a:Nat->α) (r:Nat):α:=if r=i then a k else if r=k then a i else a r
def put {α:Type} (i:Nat) (x:α) (a:Nat->α) (r:Nat):α:=if r=i then x else a r
theorem four {n i:Nat} (hn:n<=4) (hi:i<n):(n=1∨n=2∨n=3∨n=4)∧(i=0∨i=1∨i=2∨i=3):=by omega
section
variable {a:Nat->Nat->Rat}{n i k:Nat}
theorem qR (hn:n<=4) (hi:i<n) (hk:k<n) (h:i≠k):dT n (swp i k a) = -dT n a:=by
 obtain ⟨h1,h2⟩:=four hn hi
 obtain ⟨-,h3⟩:=four hn hk
 rcases h1 with rfl | rfl | rfl | rfl <;> rcases h2 with rfl | rfl | rfl | rfl <;> rcases h3 with rfl | rfl | rfl | rfl <;> first | omega | (simp [zI,dT3,dT2,swp,ab];grind)
theorem mR (hn:n<=4) (hi:i<n) (hk:k<n) (h:i≠k):dT n (put i (a k) a)=0:=by
 obtain ⟨h1,h2⟩:=four hn hi
 obtain ⟨-,h3⟩:=four hn hk
 rcases h1 with rfl | rfl | rfl | rfl <;> rcases h2 with rfl | rfl | rfl | rfl <;> rcases h3 with rfl | rfl | rfl | rfl <;> first | omega | (simp [zI,dT3,dT2,put,ab];grind)
theorem kY (hn:n<=4) (hi:i<n) (c:Rat) (x y:Nat->Rat):dT n (put i (fun j=>x j+c*y j) a)=dT n (put i x a)+c*dT n (put i y a):=by
 obtain ⟨h1,h2⟩:=four hn hi
 rcases h1 with rfl | rfl | rfl | rfl <;> rcases h2 with rfl | rfl | rfl | rfl <;> first | omega | (simp [zI,dT3,dT2,zH,put,ab] <;> grind)
theorem mT (a:Nat->Nat->Rat) (i:Nat):put i (a i) a=a:=funext fun r=>by
 unfold put
 split
 ·next h=>rw [h]
 ·rfl
theorem qT (hn:n<=4) (hi:i<n) (hk:k<n) (h:i≠k) (c:Rat):dT n (put i (fun j=>a i j+c*a k j) a)=dT n a:=by
 rw [kY hn hi,mT,mR hn hi hk h]
 grind
theorem qW (hn:n<=4) (hi:i<n):dT n (put i (fun _=>0) a)=0:=by
 have:=kY (a:=a) hn hi 1 (fun _=>0) (fun _=>0)
 simp at this
 grind
theorem qX (hn:n<=4) (hi:i<n) (c:Rat):dT n (put i (fun j=>c*a i j) a)=c*dT n a:=by
 have h:=kY (a:=a) hn hi c (fun _=>0) (a i)
 rw [mT,qW hn hi] at h
 simp only [Rat.zero_add] at h
 exact h
theorem qZ (hn:n<=4):dT n (fun i j=>a j i)=dT n a:=by
 rcases (by omega:n=0∨n=1∨n=2∨n=3∨n=4) with rfl | rfl | rfl | rfl | rfl <;> first | rfl | (simp [zI,dT3,dT2,ab] <;> grind)
end
theorem rC (n:Nat) (z:Nat->Int) (i:Nat):ae (mk n z) i=upto n z i:=dt _ _ _
theorem cX {A:List Int} (h:dg A):ad (mk A.length (ae A))=A:=rx (Ln _) h fun i=>by
 rw [fu,dt]
 split
 ·rfl
 ·exact (dL (by omega)).symm
theorem fa (t:Rat) (n:Nat) (z:Nat->Int):vL t (ad (mk n z))=ev t n z:=ry t n z
theorem lj (t:Rat){n m:Nat} (z:Nat->Int) (h:n<=m):ev t m (upto n z)=ev t n z:=by
 rw [gJ (fun i hi=>nw hi) h,ny]
theorem rD (t:Rat) (n:Nat) (z:Nat->Int):ev t n (fun i=>-(z i)) = -ev t n z:=by
 rw [show (fun i=>-(z i))=fun i=>(-1)*z i from funext fun i=>(Int.neg_one_mul _).symm,jI]
 grind
section
variable {A B:List Int}{z y:Nat->Int}{n m:Nat}
theorem zK (hA:ad (mk n z)=A) (hB:ad (mk m y)=B):mulL z n y m=aK A B:=by
 subst hA hB
 exact jH (mX _ _ _ _) (mX _ _ _ _) fun t=>by rw [nt,fa,fa];exact rz t z n y m
theorem zL (hA:ad (mk n z)=A) (hB:ad (mk m y)=B):ad (mk (max n m) fun i=>upto n z i+upto m y i)=bo A B:=by
 subst hA hB
 exact jH (Ln _) (jx _ _) fun t=>by rw [li,fa,fa,fa,iJ,lj t z (Nat.le_max_left _ _),lj t y (Nat.le_max_right _ _)]
theorem zM (hA:ad (mk n z)=A):ad (mk n fun i=>-(z i))=bK A:=by
 subst hA
 exact jH (Ln _) (mV (Ln _)) fun t=>by rw [ns,fa,fa,rD]
theorem zN (hA:ad (mk n z)=A) (hB:ad (mk m y)=B):ad (mk (max n m) fun i=>upto n z i-upto m y i)=bo A (bK B):=by
 subst hA hB
 refine jH (Ln _) (jx _ _) fun t=>?_
 rw [li,ns,fa,fa,fa,show (fun i=>upto n z i-upto m y i)=fun i=>upto n z i + -(upto m y i) from funext fun i=>Int.sub_eq_add_neg,iJ,rD,lj t z (Nat.le_max_left _ _),lj t y (Nat.le_max_right _ _)]
theorem zO (hA:ad (mk n z)=A) (hB:ad (mk m y)=A) (i:Nat):upto n z i=upto m y i:=by
 rw [<- rC,<- rC,<- fu (mk n z),<- fu (mk m y),hA,hB]
end
section
variable {Φ:PH}{p q x k l K n m:Nat}{A B:List Int}{z y:Nat->Int}
theorem lf {c:Nat} (hp:∀w v,Φ p w v->Rw 2 (If z k) n w v) (hq:∀w v,Φ q w v->Rw 2 (If y l) m w v) (hA:ad (mk n z)=A) (hB:ad (mk m y)=B) (hx:Φ x=Rw 2 (Nf (ae (aK A B)) K) (aK A B).length) (hn:n<=c) (hm:m<=400000) (hc:c<=1000) (hk:k<=100000) (hl:l<=100000) (hb:∀i,Bd (ae (aK A B) i).natAbs K) :
  aj Φ Try.prog ⟨20,[.fact p,.fact q],[oS x],false⟩:=
 aT (zP (Φ:=ph [fun w v=>Rw 2 (fun i w v=>aB w v (z i) k) n w v,fun w v=>Rw 2 (fun i w v=>aB w v (y i) l) m w v,fun w v=>Rw 2 (fun i w v=>au w v (ae (aK A B) i) (k+l+c+1)) (aK A B).length w v]) (p:=0) (q:=1) (x:=2) aa aa rfl hn hm hc hk hl (zK hA hB)) ⟨hp,hq,trivial⟩ ⟨⟨rfl,⟨rfl,rfl,fun w v h=>by rw [hx];exact Rw.to (sz:=2) (n:=(aK A B).length) (F:=fun i w v=>au w v (ae (aK A B) i) (k+l+c+1)) h fun i w v _ h=>au.re h (hb i)⟩,trivial⟩,trivial⟩
theorem ne (hp:∀w v,Φ p w v->Rw 2 (If z k) n w v) (hq:∀w v,Φ q w v->Rw 2 (If y l) m w v) (hA:ad (mk n z)=A) (hB:ad (mk m y)=B) (hx:Φ x=Rw 2 (Nf (ae (bo A B)) K) (bo A B).length) (hn:n<=1000000) (hm:m<=1000000) (hk:k<=200000) (hl:l<=200000) (hb:∀i,Bd (ae (bo A B) i).natAbs K) :
  aj Φ Try.prog ⟨19,[.fact p,.fact q],[oS x],false⟩:=
 aT (zQ (Φ:=ph [fun w v=>Rw 2 (fun i w v=>aB w v (z i) k) n w v,fun w v=>Rw 2 (fun i w v=>aB w v (y i) l) m w v,fun w v=>Rw 2 (fun i w v=>au w v (ae (bo A B) i) (k+l+1)) (bo A B).length w v]) (p:=0) (q:=1) (x:=2) aa aa rfl hn hm hk hl (zL hA hB)) ⟨hp,hq,trivial⟩ ⟨⟨rfl,⟨rfl,rfl,fun w v h=>by rw [hx];exact Rw.to (sz:=2) (n:=(bo A B).length) (F:=fun i w v=>au w v (ae (bo A B) i) (k+l+1)) h fun i w v _ h=>au.re h (hb i)⟩,trivial⟩,trivial⟩
theorem zR (hp:∀w v,Φ p w v->Rw 2 (If z k) n w v) (hA:ad (mk n z)=A) (hx:Φ x=Rw 2 (Nf (ae (bK A)) k) (bK A).length) (hn:n<=1000000) (hk:k<=200000) :
  aj Φ Try.prog ⟨22,[.fact p],[oS x],false⟩:=zS hp hx hn (by omega) (zM hA)
theorem yW (hp:∀w v,Φ p w v->Rw 2 (fun i w v=>aB w v (z i) k) n w v) (hq:∀w v,Φ q w v->Rw 2 (fun i w v=>aB w v (y i) l) m w v) (hA:ad (mk n z)=A) (hB:ad (mk m y)=B) (hx:Φ x=fun w v=>Rw 2 (fun i w v=>au w v (ae (bo A (bK B)) i) K) (bo A (bK B)).length w v) (hn:n<=1000000) (hm:m<=1000000) (hk:k<=200000) (hl:l<=200000) (hb:∀i,Bd (ae (bo A (bK B)) i).natAbs K):aj Φ Try.prog ⟨50,[.fact p,.fact q],[oS x],false⟩:=aT (zT (Φ:=ph [fun w v=>Rw 2 (fun i w v=>aB w v (z i) k) n w v,fun w v=>Rw 2 (fun i w v=>aB w v (y i) l) m w v,fun w v=>Rw 2 (fun i w v=>au w v (ae (bo A (bK B)) i) (k+l+1)) (bo A (bK B)).length w v]) (p:=0) (q:=1) (x:=2) aa aa rfl hn hm hk hl (zN hA hB)) ⟨hp,hq,trivial⟩ ⟨⟨rfl,⟨rfl,rfl,fun w v h=>by rw [hx];exact Rw.to (sz:=2) (n:=(bo A (bK B)).length) (F:=fun i w v=>au w v (ae (bo A (bK B)) i) (k+l+1)) h fun i w v _ h=>au.re h (hb i)⟩,trivial⟩,trivial⟩
end
end Go.Proofs.Ytomamliepbhegaa.Sym
