/- Division step by step, a -/
import Derived.Test.YtomamliepbhegaaGreatGauC
import Derived.Test.YtomamliepbhegaaGreatDivE
namespace Go.Proofs.YtomamliepbhegaaGreat.Sym
theorem PZ (q:Nat->Int) (k i:Nat):upto (k+1) q i=upto k q i+(if i=k then q k else 0):=by
 unfold upto
 split <;> split <;> split <;> first | omega | (subst_vars;omega)
section
variable {z y q:Nat->Int}{n m:Nat}{c:Int}
theorem sv (hy:y n=c) (hy0:∀i,n<i->y i=0) (hc:c≠0) (hq:∀i,m<=i->q i=0) (hz:∀i,z i=conv q y i):∀{j:Nat},j<=m->∀p,p<m-j+n->aQ z y n m c j p=conv (upto (m-j) q) y p
 | 0,_,p,_=>by
  show z p=_
  rw [hz]
  exact mG (fun i _=>by
   unfold upto
   split
   ·rfl
   ·exact hq i (by omega)) fun _ _=>rfl
 | j+1,hj,p,hp=>by
  have ih:=sv hy hy0 hc hq hz (j:=j) (by omega)
  have htop:aQ z y n m c j (m-1-j+n)=q (m-1-j)*c:=by
   rw [ih _ (by omega),gM (f:=upto (m-j) q) (i:=m-1-j) (k:=n) (fun i hi=>if_neg (by omega)) hy0,hy]
   rw [show upto (m-j) q (m-1-j)=q (m-1-j) from if_pos (by omega)]
  have hx:aQ z y n m c j (m-1-j+n) / c=q (m-1-j):=by rw [htop,Int.mul_ediv_cancel _ hc]
  show kE (aQ z y n m c j) y (aQ z y n m c j (m-1-j+n) / c) (m-1-j) n p=_
  rw [hx,kE]
  have e:conv (upto (m-j) q) y p=conv (upto (m-(j+1)) q) y p+(if m-1-j<=p then q (m-1-j)*y (p-(m-1-j)) else 0):=by
   rw [<- gY,<- gz]
   refine mG (fun i _=>?_) fun _ _=>rfl
   have:=PZ q (m-1-j) i
   rw [show m-1-j+1=m-j by omega] at this
   rw [this,show m-(j+1)=m-1-j by omega]
  by_cases h:m-1-j<=p
  ·rw [if_pos ⟨h,by omega⟩,ih p (by omega),e,if_pos h]
   omega
  ·rw [if_neg fun h'=>h h'.1,ih p (by omega),e,if_neg h,Int.add_zero]
theorem CL (hy:y n=c) (hy0:∀i,n<i->y i=0) (hc:c≠0) (hq:∀i,m<=i->q i=0) (hz:∀i,z i=conv q y i):(∀j,j<m->c∣aQ z y n m c j (m-1-j+n))∧∀p,p<n->aQ z y n m c m p=0:=by
 refine ⟨fun j hj=>?_,fun p hp=>?_⟩
 ·rw [sv hy hy0 hc hq hz (by omega) _ (by omega),gM (f:=upto (m-j) q) (i:=m-1-j) (k:=n) (fun i hi=>if_neg (by omega)) hy0,hy]
  exact Int.dvd_mul_left _ _
 ·rw [sv hy hy0 hc hq hz (Nat.le_refl _) _ (by omega)]
  exact fG (fun i=>if_neg (by omega)) p
theorem CM (hy:y n=c) (hy0:∀i,n<i->y i=0) (hz:∀i,m+n<=i->z i=0) (hdv:∀j,j<m->c∣aQ z y n m c j (m-1-j+n)):∀{j:Nat},j<=m->∀p,z p=(if p<m-j+n then aQ z y n m c j p else 0)+conv (fun i=>if m-j<=i∧i<m then exT z y n m c i else 0) y p
 | 0,_,p=>by
  rw [fG (fun i=>if_neg (by omega))]
  by_cases h:p<m-0+n
  ·rw [if_pos h,Int.add_zero];rfl
  ·rw [if_neg h,hz p (by omega)];rfl
 | j+1,hj,p=>by
  have ih:=CM hy hy0 hz hdv (j:=j) (by omega) p
  have e:conv (fun i=>if m-(j+1)<=i∧i<m then exT z y n m c i else 0) y p=conv (fun i=>if m-j<=i∧i<m then exT z y n m c i else 0) y p+(if m-1-j<=p then exT z y n m c (m-1-j)*y (p-(m-1-j)) else 0):=by
   rw [<- gY,<- gz]
   refine mG (fun i _=>?_) fun _ _=>rfl
   by_cases h1:i=m-1-j
   ·subst h1
    rw [if_pos ⟨by omega,by omega⟩,if_neg (by omega),if_pos rfl,Int.zero_add]
   ·rw [if_neg h1,Int.add_zero]
    by_cases h2:m-j<=i∧i<m
    ·rw [if_pos h2,if_pos ⟨by omega,h2.2⟩]
    ·rw [if_neg h2,if_neg fun h=>h2 ⟨by omega,h.2⟩]
  have ht:exT z y n m c (m-1-j)=aQ z y n m c j (m-1-j+n) / c:=by
   rw [exT,show m-1-(m-1-j)=j by omega]
  rw [e,ih]
  show _=(if p<m-(j+1)+n then kE (aQ z y n m c j) y (aQ z y n m c j (m-1-j+n) / c) (m-1-j) n p else 0)+_
  rw [ht,kE]
  by_cases h1:p<m-(j+1)+n
  ·rw [if_pos (by omega),if_pos h1]
   by_cases h2:m-1-j<=p
   ·rw [if_pos ⟨h2,by omega⟩,if_pos h2]
    omega
   ·rw [if_neg fun h=>h2 h.1,if_neg h2]
    omega
  ·rw [if_neg h1]
   by_cases h2:p=m-1-j+n
   ·subst h2
    obtain ⟨d,hd⟩:=hdv j (by omega)
    rw [if_pos (by omega),if_pos (by omega),Nat.add_sub_cancel_left,hy,Int.ediv_mul_cancel (hdv j (by omega))]
    omega
   ·rw [if_neg (by omega),show y (p-(m-1-j))=0 from hy0 _ (by omega),Int.mul_zero]
    split <;> omega
theorem Qa (hy:y n=c) (hy0:∀i,n<i->y i=0) (hz:∀i,m+n<=i->z i=0) (hdv:∀j,j<m->c∣aQ z y n m c j (m-1-j+n)) (hr:∀p,p<n->aQ z y n m c m p=0):el y z:=by
 refine ⟨fun i=>if m-m<=i∧i<m then exT z y n m c i else 0,⟨m,fun i hi=>if_neg (by omega)⟩,fun p=>?_⟩
 have:=CM hy hy0 hz hdv (Nat.le_refl m) p
 rw [this]
 split
 ·rw [hr p (by omega),Int.zero_add]
 ·rw [Int.zero_add]
theorem Qb (hy:y n=c) (hy0:∀i,n<i->y i=0) (hc:c≠0){l:Nat} (hz:∀i,l<=i->z i=0) (h:el y z):∃q,(∀i,l-n<=i->q i=0)∧∀i,z i=conv q y i:=by
 obtain ⟨q,⟨k,hk⟩,hq⟩:=h
 refine ⟨q,fun i hi=>Classical.byContradiction fun hne=>?_,hq⟩
 obtain ⟨t,h1,h2⟩:=topmost (P:=fun i=>q i≠0) (n:=k) ⟨i,hne⟩ fun i hi hne=>hne (hk i hi)
 have hti:i<=t:=Classical.byContradiction fun h=>h2 i (by omega) hne
 have h3:=hq (t+n)
 rw [gM (fun j hj=>Classical.byContradiction fun e=>h2 j hj e) hy0,hy,hz _ (by omega)] at h3
 exact Int.mul_ne_zero h1 hc h3.symm
end
end Go.Proofs.YtomamliepbhegaaGreat.Sym
