/- A rational time as it is -/
import Derived.Test.YtlmanbjkkjfjgaaGreatRGcd
set_option maxRecDepth 100000
namespace Go.Proofs.YtlmanbjkkjfjgaaGreat.Sym
open Go.Proofs.Tryz
open Go.RowKit
variable {D a b d d0 d1 e:Int}{j k kk kt m m0 m1 n n0 n1 p q r x:Nat}{L X Y:List Int}{w:World}{v:Value}{F Φ:PH}{t:Rat}{P:Program}{x0 x1 y y0 y1 z:Nat->Int}
theorem abe {a:Nat->Int} (i:Nat):gD a n (ae [1]) 1 i=a i∨gD a n (ae [1]) 1 i=0:=by
 unfold gD;have h1:((ae [1] (1-1)).natAbs:Int)=1:=rfl;split
 ·rw [h1,Int.mul_one];split
  ·rcases Nat.eq_zero_or_pos (i-(n-1)) with h | h
   ·obtain rfl:i=n-1:=by omega
    right;rw [if_neg (show ¬ae [1] (1-1)<0 by decide),Nat.sub_self,show ae [1] 0=1 from rfl,Int.mul_one,Int.sub_self]
   ·left;rw [et (zs:=[1]) (show ([1]:List Int).length<=i-(n-1) from h),Int.mul_zero,Int.sub_zero]
  ·left;rw [Int.sub_zero]
 ·exact .inr rfl
theorem IX {a:Nat->Int}{n k:Nat} (ha:∀i,Bd (a i).natAbs k):∀j i,Bd ((cw a n (ae [1]) 1 j).1 i).natAbs k
 | 0,i=>ha i
 | j+1,i=>by
  rw [cw];rcases abe (a:=(cw a n (ae [1]) 1 j).1) (n:=(cw a n (ae [1]) 1 j).2) i with h | h
  ·show Bd (gD (cw a n (ae [1]) 1 j).1 (cw a n (ae [1]) 1 j).2 (ae [1]) 1 i).natAbs k;rw [h];exact IX ha j i
  ·show Bd (gD (cw a n (ae [1]) 1 j).1 (cw a n (ae [1]) 1 j).2 (ae [1]) 1 i).natAbs k;rw [h];exact Nat.pow_pos (by omega)
theorem yU {x:Nat->Rat}{m:Nat} (hx:∀p,m<=p->x p=0):∀j,j<=m->∀p,rq x (λi=>((ae [1] i:Int):Rat)) 0 m j p=if m-j<=p then 0 else x p
 | 0,_,p=>by
  rw [rq];split
  ·exact hx p (by omega)
  ·rfl
 | j+1,hj,p=>by
  have b0:((ae [1] 0:Int):Rat)=1:=rfl;rw [rq,yU hx j (by omega) p,yU hx j (by omega) (m-1-j+0)];have h1:¬m-j<=m-1-j+0:=by omega
  rw [if_neg h1,Nat.add_zero];rcases Nat.lt_or_ge p (m-1-j) with h | h
  ·rw [if_neg (show ¬m-j<=p by omega),if_neg (show ¬m-1-j<=p by omega),if_neg (show ¬m-(j+1)<=p by omega),Rat.sub_eq_add_neg,Rat.neg_zero,Rat.add_zero]
  ·rw [if_pos h,if_pos (show m-(j+1)<=p by omega)];rcases Nat.eq_or_lt_of_le h with h2 | h2
   ·subst h2;rw [if_neg (show ¬m-j<=m-1-j by omega),Nat.sub_self,b0,Rat.div_def,Rat.inv_eq_of_mul_eq_one (show (1:Rat)*1=1 from Rat.mul_one 1),Rat.mul_one,Rat.mul_one,Rat.sub_self]
   ·rw [if_pos (show m-j<=p by omega),et (zs:=[1]) (show ([1]:List Int).length<=p-(m-1-j) from by show 1<=_;omega),show (((0:Int):Int):Rat)=0 from rfl,Rat.mul_zero,Rat.sub_self]
theorem abf {x:Nat->Rat} (hx:∀p,m<=p->x p=0) (p:Nat) (hp:p<m:=by omega):rqQ x (λi=>((ae [1] i:Int):Rat)) 0 m p=x p:=by rw [rqQ,if_pos hp,yU hx _ (by omega),if_neg (by omega),Nat.add_zero];show x p / 1=x p;rw [Rat.div_def,Rat.inv_eq_of_mul_eq_one (show (1:Rat)*1=1 from Rat.mul_one 1),Rat.mul_one]
theorem abg  (h:ct L):mulL (ae [1]) 1 (ae L) L.length=L:=kH (oC _ _ _ _) h λt=>by show vL t (adI [1] L)=vL t L;rw [iP,kQ,show ((1:Int):Rat)=1 from rfl,Rat.one_mul]
section
variable {y l K:Nat}{P:List Int}
theorem abh (hp:∀w v,Φ p w v->Rw 4 (λi w v=>ah w v ((ae L i:Int):Rat) k) L.length w v) (hq:∀w v,Φ q w v->Rw 4 (λi w v=>ah w v ((ae [1] i:Int):Rat) l) 1 w v) (hx:Φ x=λw v=>Rw 4 (λi w v=>ah w v ((ae ([]:List Int) i:Int):Rat) k) ([]:List Int).length w v) (hl:L.length<=1000) (hk1:1<=k) (hb:∀i,Bd (ae L i).natAbs k) (hk:k<=1000:=by omega) (hl2:l<=1000:=by omega):aj Φ prog ⟨89,[.fact p,.fact q],[oS x],false⟩:=by
 have h0:(rsE (ae L) L.length (ae [1]) 1).2=0:=by have:=(IY (a:=ae L) (n:=L.length) (b:=ae [1]) (m:=1) (λ_ hi=>et hi) (λ_ hi=>et hi) (by omega) (by decide)).1.2.1;omega
 refine aU (abi (Φ:=ph [λw v=>Rw 4 (λi w v=>ah w v ((ae L i:Int):Rat) k) L.length w v,λw v=>Rw 4 (λi w v=>ah w v ((ae [1] i:Int):Rat) l) 1 w v,λw v=>Rw 4 (λi w v=>ah w v (((rsE (ae L) L.length (ae [1]) 1).1 i:Int):Rat) k) (rsE (ae L) L.length (ae [1]) 1).2 w v]) (p:=0) (q:=1) (x:=2) (z:=ae L) (n:=L.length) (y:=ae [1]) (m:=1) (K:=k) (kb:=l) ad ad rfl (λ_ hi=>et hi) (λ_ hi=>et hi) hl hk1 (λi _=>hb i) (λj _ i _=>IX hb (j+1) i)) ⟨hp,hq,trivial⟩ ⟨⟨rfl,⟨rfl,rfl,λw v h=>?_⟩,trivial⟩,trivial⟩;have h':Rw 4 (λi w v=>ah w v (((rsE (ae L) L.length (ae [1]) 1).1 i:Int):Rat) k) (rsE (ae L) L.length (ae [1]) 1).2 w v:=h;rw [h0] at h';rw [hx];exact Rw.to (sz:=4) (n:=0) h' λ_ _ _ _ _=>by omega
theorem uf (hp:∀w v,Φ p w v->Rw 4 (λi w v=>ah w v ((ae L i:Int):Rat) k) L.length w v) (hx:Φ x=λw v=>Rw 4 (λi w v=>ah w v ((ae P i:Int):Rat) k) P.length w v) (hl:L.length<=1000) (hk1:1<=k) (hL:ct L) (hb:∀i,Bd (ae L i).natAbs k) (hP:dvL (ae L) L.length (cD (ae L) L.length)=P) (hk:k<=3000:=by omega):aj Φ prog ⟨148,[.fact p],[oS x],false⟩:=by refine abj (z:=ae L) (n:=L.length) (k:=k) hp ?_ (by omega) hk hk1 (gw hL) λi _=>hb i;rw [hx,hP,<- hP,dvL,dc]
theorem abk (hp:∀w v,Φ p w v->Rw 4 (λi w v=>ah w v ((ae L i:Int):Rat) k) L.length w v) (hq:∀w v,Φ q w v->Rw 4 (λi w v=>ah w v ((ae [1] i:Int):Rat) l) 1 w v) (hx:Φ x=λw v=>Rw 4 (λi w v=>ah w v ((ae L i:Int):Rat) 100) L.length w v) (hy:Φ y=λw v=>Rw 4 (λi w v=>ah w v ((ae ([]:List Int) i:Int):Rat) 100) ([]:List Int).length w v) (hl:L.length<=10) (hk:k<=50) (hL:ct L) (hb:∀i,Bd (ae L i).natAbs k) (hl2:l<=100:=by omega):aj Φ prog ⟨149,[.fact p,.fact q],[oS x,oS y],true⟩:=by
 have hq0:∀i,i<L.length->rqQ (λi=>((ae L i:Int):Rat)) (λi=>((ae [1] i:Int):Rat)) 0 (L.length-0) i=((ae L i:Int):Rat):=λi hi=>abf (λ_ _=>by rw [et (by omega)];rfl) i;have ht:tl (λi=>(rqQ (λi=>((ae L i:Int):Rat)) (λi=>((ae [1] i:Int):Rat)) 0 (L.length-0) i).num) (L.length-0)=L.length:=gw λh=>by rw [Nat.sub_zero] at h ⊢;rw [show L.length-0=L.length from rfl] at hq0;rw [hq0 _ (by omega)];exact hL h
 exact Qe (z:=ae L) (y:=ae [1]) (n:=0) (n0:=L.length) (kx:=k) (kb:=l) (kz:=k) (ky:=1) (K:=100) (QL:=L) (RL:=[]) hp hq hx hy hb (λi=>by match i with | 0=>exact dV (Nat.le_refl 1) | i+1=>exact Nat.pow_pos (by omega)) (λ_ hi=>et hi) hL (λ_ hi=>et hi) ⟨ht,hq0⟩ ⟨rfl,λ_ hi=>absurd hi (by simp)⟩
theorem abl (hp:∀w v,Φ p w v->Rw 4 (λi w v=>ah w v ((ae [1] i:Int):Rat) k) 1 w v) (hq:∀w v,Φ q w v->Rw 4 (λi w v=>ah w v ((ae L i:Int):Rat) l) L.length w v) (hx:Φ x=λw v=>Rw 4 (λi w v=>ah w v ((ae L i:Int):Rat) 200) L.length w v) (hl:L.length<=10) (hL:ct L) (hb:∀i,Bd (ae L i).natAbs l) (hk:k<=100:=by omega) (hl2:l<=100:=by omega):aj Φ prog ⟨127,[.fact p,.fact q],[oS x],false⟩:=
 Sj (z:=ae [1]) (n:=1) (y:=ae L) (m:=L.length) (k:=k) (l:=l) (kz:=1) (ky:=l) (K:=200) (P:=L) hp hq hx (gw hL) (λi _=>by match i with | 0=>exact dV (Nat.le_refl 1) | i+1=>exact Nat.pow_pos (by omega)) (λi _=>hb i) (abg hL)
end
theorem abm  (hd:0<d) (h:Int.gcd a d=1):cD (ae [a,d]) 2=1:=by
 have ht:tl (ae [a,d]) 2=2:=gw (show 0<2->d≠0 from λ_=>by omega);have hg:aT (ae [a,d]) 2=1:=by show Nat.gcd (Nat.gcd 0 a.natAbs) d.natAbs=1;rw [Nat.gcd_zero_left];exact h
 rw [cD,qr,ht,if_neg (show ¬(2:Nat)=0 by decide),if_neg (show ¬ae [a,d] (2-1)<0 from by show ¬d<0;omega),hg];rfl
theorem abn  (hd:0<d) (h:Int.gcd a d=1):dvL (ae [a,d]) [a,d].length (cD (ae [a,d]) [a,d].length) = [a,d]:=by show dvL (ae [a,d]) 2 (cD (ae [a,d]) 2) = [a,d];rw [abm hd h,dvL,gw (show 0<2->ae [a,d] (2-1)≠0 from λ_=>by show d≠0;omega)];show [a / 1,d / 1] = [a,d];rw [Int.ediv_one,Int.ediv_one]
theorem IZ  (hd:0<d):dvL (ae [d]) [d].length (cD (ae [d]) [d].length) = [1]:=by
 have ht:tl (ae [d]) 1=1:=gw (show 0<1->d≠0 from λ_=>by omega);have hg:aT (ae [d]) 1=d.natAbs:=by show Nat.gcd 0 d.natAbs=_;rw [Nat.gcd_zero_left]
 show dvL (ae [d]) 1 (cD (ae [d]) 1) = [1];rw [cD,qr,ht,if_neg (show ¬(1:Nat)=0 by decide),if_neg (show ¬ae [d] (1-1)<0 from by show ¬d<0;omega),hg,dvL,ht];show [d / (d.natAbs:Int)] = [1];rw [show ((d.natAbs:Nat):Int)=d by omega,Int.ediv_self (by omega)]
structure cZ (a d:Int) (k:Nat):Prop where
 d0:0<d
 g:Int.gcd a d=1
 ba:Bd a.natAbs k
 bd:Bd d.natAbs k
 k1:1<=k
 k2:k<=50
def lfa (a d:Int):Nat->List Int
 | 0=>[a,d]
 | _=>[1]
def iV (a d:Int) (_:Nat):List Int:=[a,d]
theorem mh :Bd (Int.natAbs 0) k:=Nat.pow_pos (by omega)
section
variable {y l:Nat}{J:List Nat}
theorem cZ.nA (h:cZ a d k):ct [a,d]:=λ_=>by show d≠0;have:=h.d0;omega
theorem cZ.nD (h:cZ a d k):ct [d]:=λ_=>by show d≠0;have:=h.d0;omega
theorem Ja:ct [1]:=λ_=>by decide
theorem cZ.bA (h:cZ a d k):∀i,Bd (ae [a,d] i).natAbs k
 | 0=>h.ba
 | 1=>h.bd
 | _+2=>mh
theorem cZ.bD (h:cZ a d k):∀i,Bd (ae [d] i).natAbs k
 | 0=>h.bd
 | _+1=>mh
theorem cZ.b1 (h:cZ a d k):∀i,Bd (ae [1] i).natAbs k
 | 0=>dV h.k1
 | _+1=>mh
theorem ug (h:cZ a d k) (hp:∀w v,Φ p w v->Rw 4 (λi w v=>ah w v ((ae [a,d] i:Int):Rat) k) 2 w v) (hx:Φ x=λw v=>Rw 4 (λi w v=>ah w v ((ae [a,d] i:Int):Rat) k) 2 w v):aj Φ prog ⟨148,[.fact p],[oS x],false⟩:=
 have:=h.k2
 uf (L:=[a,d]) (P:=[a,d]) hp hx (show 2<=1000 by omega) h.k1 h.nA h.bA (abn h.d0 h.g)
theorem abo (h:cZ a d k) (hp:∀w v,Φ p w v->Rw 4 (λi w v=>ah w v ((ae [d] i:Int):Rat) k) 1 w v) (hx:Φ x=λw v=>Rw 4 (λi w v=>ah w v ((ae [1] i:Int):Rat) k) 1 w v):aj Φ prog ⟨148,[.fact p],[oS x],false⟩:=
 have:=h.k2
 uf (L:=[d]) (P:=[1]) hp hx (show 1<=1000 by omega) h.k1 h.nD h.bD (IZ h.d0)
theorem abp (h:cZ a d k) (hp:∀w v,Φ p w v->Rw 4 (λi w v=>ah w v ((ae [1] i:Int):Rat) k) 1 w v) (hx:Φ x=λw v=>Rw 4 (λi w v=>ah w v ((ae [1] i:Int):Rat) k) 1 w v):aj Φ prog ⟨148,[.fact p],[oS x],false⟩:=
 have:=h.k2
 uf (L:=[1]) (P:=[1]) hp hx (show 1<=1000 by omega) h.k1 Ja h.b1 (IZ (by omega))
theorem abq (h:cZ a d k) (hp:∀w v,Φ p w v->Rw 4 (λi w v=>ah w v ((ae [] i:Int):Rat) k) 0 w v) (hx:Φ x=λw v=>Rw 4 (λi w v=>ah w v ((ae [] i:Int):Rat) k) 0 w v):aj Φ prog ⟨148,[.fact p],[oS x],false⟩:=
 have:=h.k2
 uf (L:=[]) (P:=[]) hp hx (show 0<=1000 by omega) h.k1 Gx (λ_=>mh) rfl
theorem Jb (h:cZ a d k) (hp:∀w v,Φ p w v->Rw 4 (λi w v=>ah w v ((ae [a,d] i:Int):Rat) k) 2 w v) (hq:∀w v,Φ q w v->Rw 4 (λi w v=>ah w v ((ae [1] i:Int):Rat) k) 1 w v) (hx:Φ x=λw v=>Rw 4 (λi w v=>ah w v ((ae [] i:Int):Rat) k) 0 w v):aj Φ prog ⟨89,[.fact p,.fact q],[oS x],false⟩:=
 have:=h.k2
 abh (L:=[a,d]) hp hq hx (show 2<=1000 by omega) h.k1 h.bA
theorem Rw.uh  (h:Rw 4 (λi w v=>ah w v ((ae L i:Int):Rat) k) n w v) (hb:∀i,Bd (ae L i).natAbs l) (hl:1<=l):Rw 4 (λi w v=>ah w v ((ae L i:Int):Rat) l) n w v:=
 Rw.to (sz:=4) (n:=n) h λi _ _ _ h=>ah.dm h (hb i) (dV hl)
theorem Jc  (hL:ct L) (hb:∀i,Bd (ae L i).natAbs k) (hk1:1<=k) (hk:k<=50) (hl:L.length<=10) (hp:∀w v,Φ p w v->Rw 4 (λi w v=>ah w v ((ae L i:Int):Rat) k) L.length w v) (hq:∀w v,Φ q w v->Rw 4 (λi w v=>ah w v ((ae [1] i:Int):Rat) k) 1 w v) (hx:Φ x=λw v=>Rw 4 (λi w v=>ah w v ((ae L i:Int):Rat) k) L.length w v) (hy:Φ y=λw v=>Rw 4 (λi w v=>ah w v ((ae [] i:Int):Rat) k) 0 w v):aj Φ prog ⟨149,[.fact p,.fact q],[oS x,oS y],true⟩:=by
 refine aU (abk (Φ:=ph [λw v=>Rw 4 (λi w v=>ah w v ((ae L i:Int):Rat) k) L.length w v,λw v=>Rw 4 (λi w v=>ah w v ((ae [1] i:Int):Rat) k) 1 w v,λw v=>Rw 4 (λi w v=>ah w v ((ae L i:Int):Rat) 100) L.length w v,λw v=>Rw 4 (λi w v=>ah w v ((ae ([]:List Int) i:Int):Rat) 100) ([]:List Int).length w v]) (p:=0) (q:=1) (x:=2) (y:=3) (L:=L) ad ad rfl rfl hl hk hL hb) ⟨hp,hq,trivial⟩ ⟨⟨rfl,⟨rfl,rfl,λw v h=>?_⟩,trivial⟩,⟨rfl,⟨rfl,rfl,λw v h=>?_⟩,trivial⟩,trivial⟩
 ·rw [hx];exact Rw.uh (k:=100) h hb hk1
 ·rw [hy];exact Rw.uh (k:=100) h (λ_=>mh) hk1
theorem Jd (h:cZ a d k) (hp:∀w v,Φ p w v->Rw 4 (λi w v=>ah w v ((ae [a,d] i:Int):Rat) k) 2 w v) (hq:∀w v,Φ q w v->Rw 4 (λi w v=>ah w v ((ae [1] i:Int):Rat) k) 1 w v) (hx:Φ x=λw v=>Rw 4 (λi w v=>ah w v ((ae [a,d] i:Int):Rat) k) 2 w v) (hy:Φ y=λw v=>Rw 4 (λi w v=>ah w v ((ae [] i:Int):Rat) k) 0 w v):aj Φ prog ⟨149,[.fact p,.fact q],[oS x,oS y],true⟩:=
 Jc (L:=[a,d]) h.nA h.bA h.k1 h.k2 (show 2<=10 by omega) hp hq hx hy
theorem abr (h:cZ a d k) (hp:∀w v,Φ p w v->Rw 4 (λi w v=>ah w v ((ae [1] i:Int):Rat) k) 1 w v) (hq:∀w v,Φ q w v->Rw 4 (λi w v=>ah w v ((ae [1] i:Int):Rat) k) 1 w v) (hx:Φ x=λw v=>Rw 4 (λi w v=>ah w v ((ae [1] i:Int):Rat) k) 1 w v) (hy:Φ y=λw v=>Rw 4 (λi w v=>ah w v ((ae [] i:Int):Rat) k) 0 w v):aj Φ prog ⟨149,[.fact p,.fact q],[oS x,oS y],true⟩:=
 Jc (L:=[1]) Ja h.b1 h.k1 h.k2 (show 1<=10 by omega) hp hq hx hy
theorem abs (h:cZ a d k) (hp:∀w v,Φ p w v->Rw 4 (λi w v=>ah w v ((ae [1] i:Int):Rat) k) 1 w v) (hq:∀w v,Φ q w v->Rw 4 (λi w v=>ah w v ((ae [a,d] i:Int):Rat) k) 2 w v) (hx:Φ x=λw v=>Rw 4 (λi w v=>ah w v ((ae [a,d] i:Int):Rat) k) 2 w v):aj Φ prog ⟨127,[.fact p,.fact q],[oS x],false⟩:=by have hk2:=h.k2;refine aU (abl (Φ:=ph [λw v=>Rw 4 (λi w v=>ah w v ((ae [1] i:Int):Rat) k) 1 w v,λw v=>Rw 4 (λi w v=>ah w v ((ae [a,d] i:Int):Rat) k) 2 w v,λw v=>Rw 4 (λi w v=>ah w v ((ae [a,d] i:Int):Rat) 200) 2 w v]) (p:=0) (q:=1) (x:=2) (L:=[a,d]) ad ad rfl (show 2<=10 by omega) h.nA h.bA) ⟨hp,hq,trivial⟩ ⟨⟨rfl,⟨rfl,rfl,λw v h'=>?_⟩,trivial⟩,trivial⟩;rw [hx];exact Rw.uh (k:=200) h' h.bA h.k1
theorem Je (h:cZ a d k) (hp:∀w v,Φ p w v->Rw 4 (λi w v=>ah w v ((ae [a,d] i:Int):Rat) k) 2 w v) (hx:Φ x=λw v=>Rw 4 (λi w v=>ah w v ((ae [d] i:Int):Rat) k) 1 w v):aj Φ prog ⟨56,[.fact p],[oS x],false⟩:=by
 have hk2:=h.k2;have e:fw [a,d] = [d]:=by show [d*((0+1:Nat):Int)] = [d];rw [show ((0+1:Nat):Int)=1 from rfl,Int.mul_one]
 exact yP (L:=[a,d]) (k:=k) (K:=k) hp (by rw [e];exact hx) (show 2<=1000 by omega) h.nA h.k1 (by rw [e];exact h.bD)
theorem abt (h:cZ a d k) (hp:∀w v,Φ p w v->Rw 4 (λi w v=>ah w v ((ae [d] i:Int):Rat) k) 1 w v) (hx:Φ x=λw v=>Rw 4 (λi w v=>ah w v ((ae [1] i:Int):Rat) k) 1 w v):aj Φ prog ⟨87,[.fact p],[oS x],false⟩:=by
 have hk2:=h.k2;have hk1:=h.k1;have hd:=h.d0;refine DE (SL:=[1]) (C:=1) (R:=ae [d]) (kr:=k) (kc:=1) (n:=1) (K:=k) hp hx (λi _=>?_) (λi _=>h.bD i) (dV (Nat.le_refl 1)) (λ_=>?_) ?_
 ·rw [show ((1:Int):Rat)=1 from rfl,Rat.mul_one]
 ·show d≠0;omega
 ·show [d / ((Nat.gcd 0 d.natAbs:Nat):Int)] = [1];rw [Nat.gcd_zero_left,show ((d.natAbs:Nat):Int)=d by omega,Int.ediv_self (show d≠0 by omega)]
theorem abu (h:cZ a d k) (hp:∀w v,Φ p w v->Rw 4 (λi w v=>ah w v ((ae [] i:Int):Rat) k) 0 w v) (hx:Φ x=λw v=>Rw 4 (λi w v=>ah w v ((ae [] i:Int):Rat) k) 0 w v):aj Φ prog ⟨87,[.fact p],[oS x],false⟩:=
 have hk2:=h.k2;have hk1:=h.k1
 DE (SL:=[]) (C:=1) (R:=ae []) (kr:=k) (kc:=1) (n:=0) (K:=k) hp hx (λ_ hi=>absurd hi (by omega)) (λ_ hi=>absurd hi (by omega)) (dV (Nat.le_refl 1)) (λh=>absurd h (by omega)) rfl
theorem abv (h:cZ a d k) (hp:∀w v,Φ p w v->Rw 4 (λi w v=>ah w v ((ae [] i:Int):Rat) k) 0 w v) (hx:Φ x=λw v=>Rw 4 (λi w v=>ah w v ((ae [] i:Int):Rat) k) 0 w v):aj Φ prog ⟨88,[.fact p],[oS x],false⟩:=
 have hk2:=h.k2
 Sp (A:=[]) hp hx (show 0<=1000 by omega) (by omega) h.k1 Gx λ_=>mh
theorem Jf (h:cZ a d k) (hp:∀w v,Φ p w v->Rw 1 (λi _ v=>v = .agg #[.int .i64 (ae [1] i)]) 1 w v) (hx:Φ x=λw v=>Rw 4 (λi w v=>ah w v ((ae [1] i:Int):Rat) k) 1 w v):aj Φ prog ⟨11,[.fact p],[oS x],false⟩:=by refine aU (IL (Φ:=ph [λw v=>Rw 1 (λi _ v=>v = .agg #[.int .i64 (ae [1] i)]) 1 w v,λw v=>Rw 4 (λi w v=>ah w v ((ae [1] i:Int):Rat) 6) 1 w v]) (p:=0) (x:=1) (z:=ae [1]) (n:=1) (L:=[1]) ad rfl (qh (by decide))) ⟨hp,trivial⟩ ⟨⟨rfl,⟨rfl,rfl,λw v h'=>?_⟩,trivial⟩,trivial⟩;rw [hx];exact Rw.uh (k:=6) h' h.b1 h.k1
def abw (a d:Int) (k:Nat):List WP:=[Rw 4 (Zf (ae [a,d]) k) 2,Rw 4 (Zf (ae [d]) k) 1,Rw 4 (Zf (ae [a,d]) k) 2,Rw 4 (Zf (ae [1]) k) 1,Nz 1,Rw 4 (Zf (ae []) k) 0,Rw 4 (Zf (ae []) k) 0,Nz 0]
def abx:List Step:=[cB 148 [0] [oS 2],
   cB 148 [1] [oS 3],.rounds 2,bQ [3] [oN 4] (aC 38),bQ [4,.lit (Ai 0)] oT (am .gtr),
   cB 89 [2,3] [oS 5],
   cB 148 [5] [oS 6],bQ [6] [oN 7] (aC 38),bQ [7,.lit (Ai 0)] oF (am .gtr)]
def aby:List Out:=[oS 0,oS 1]
theorem abz  (h:cZ a d k):aj (ph (abw a d k)) prog ⟨129,[0,1],[oS 3],false⟩:=by
 have hk1:=h.k1;have hk2:=h.k2;exact adL aby [oS 3] abx func129 (by kernel_rfl) (lB (ug h ad rfl) (lB (abo h ad rfl) (iA (lB (aM (F:=(Zf (ae [1]) k)) underlying38 ad rfl) (lB (cn (op:=.gtr) ad (bz (rfl) (by simp))) (lB (Jb h ad ad rfl) (lB (abq h ad rfl) (lB (aM (F:=(Zf (ae []) k)) underlying38 ad rfl) (lB (cn (op:=.gtr) ad (bz (rfl) (by simp))) au)))))))))
  (aP [.fact 0 (.one (.s)),.fact 1 (.one (.s))] ⟨Rw.Is 4 (Zf (ae [a,d]) k) 2,Rw.Is 4 (Zf (ae [d]) k) 1,trivial⟩) aV
end
section
variable {y l:Nat}{J:List Nat}
theorem abA (h:cZ a d k) (hp:∀w v,Φ p w v->Rw 4 (λi w v=>ah w v ((ae [a,d] i:Int):Rat) k) 2 w v) (hq:∀w v,Φ q w v->Rw 4 (λi w v=>ah w v ((ae [d] i:Int):Rat) k) 1 w v) (hx:Φ x=λw v=>Rw 4 (λi w v=>ah w v ((ae [1] i:Int):Rat) k) 1 w v):aj Φ prog ⟨129,[.fact p,.fact q],[oS x],false⟩:=
 aU (abz h) ⟨hp,hq,trivial⟩ ⟨⟨rfl,⟨rfl,rfl,λ_ _ h=>hx▸h⟩,trivial⟩,trivial⟩
theorem abB {T e:TypeId}{ps:List Nat}{zc:C} (hT:prog.underlying T=some (.slice e)) (hl:ps.length=n) (hF:∀i p,ps[i]?=some p->∀w v,Φ p w v->(∃q n c,v = .slice q n c)∧F i w v) (hx:Φ x=bh e F n) (hz:dU prog e=some 1:=by kernel_rfl) (h0:zeroAt prog e=some zc:=by kernel_rfl) (hn:0<n∧n<=1000:=by omega):aj Φ prog ⟨0,.any :: ps.map Arg.fact,[oS x],.loose [] j 0 (dl T n)⟩:=λX L w ac o xs hX hL hLX hm ha hb _=>by
 unfold dl at hm;split at hm
 case h_2=>cases hm
 rename_i t len parts ho;split at hm
 case isFalse=>cases hm
 rename_i hc;obtain ⟨rfl,rfl,hr⟩:=hc;simp only [Option.some.injEq] at hm;subst hm;obtain ⟨hvl,hv⟩:=vK ha.2;generalize hvs:(parts.toList.map (·.2)).map ac.eval=vs at *
 have hsl:∀v,v ∈ vs->∃q n c,v = .slice q n c:=λv hv'=>by obtain ⟨i,hi,rfl⟩:=List.mem_iff_getElem.1 hv';have hp:ps[i]?=some ps[i]:=List.getElem?_eq_getElem (by omega);exact (hF i _ hp w _ (hv i _ _ hp (List.getElem?_eq_getElem hi) w (Off.refl _ _))).1
 have hone:∀v,v ∈ vs->v.cells = #[v]:=λv hv'=>by obtain ⟨q,n,c,rfl⟩:=hsl v hv';rfl
 have hlen:vs.length=len:=by omega
 have hparts:(parts.map λ(q:Nat×Operand)=>(q.1,ac.eval q.2)).toList=(List.range' 0 vs.length).zip vs:=by
  have e3:(parts.map λ(q:Nat×Operand)=>(q.1,ac.eval q.2)).toList=parts.toList.map λq=>(q.1,ac.eval q.2):=by simp
  rw [e3,vJ ac.eval hr,hvs,hlen,List.range_eq_range']
 have yV:Instr.fill (λi=>some (i*1,1)) ((Array.range (len*1)).map λj=>((zc.cells.map (Atom.ev da)).toArray)[j % (zc.cells.map (Atom.ev da)).toArray.size]!) ((List.range' 0 vs.length).zip vs)=some vs.toArray:=by
  generalize hA:((Array.range (len*1)).map λj=>((zc.cells.map (Atom.ev da)).toArray)[j % (zc.cells.map (Atom.ev da)).toArray.size]!)=A;have hs:A.size=len:=by rw [<- hA];simp
  have e:A=([] ++ A.toList).toArray:=by simp
  rw [e];exact AH vs [] A.toList hone (by simp [hs,hlen])
 have hrun:(execOp ac.eval o).run prog w = .ok (.value (.slice (some ⟨w.heap.size,0,none⟩) len len)) (w.alloc (.cells vs.toArray e)):=by
  have e5:¬(len*1 > 2 ^ 24):=by omega
  have h2:¬(len*1=0):=by omega
  unfold execOp;simp only [ho];simp only [Instr.buildSlice,Sem.run_bind,run_underlying hT,Result.andThen_ok,run_sizeOf hz];rw [Sem.run_ite,if_neg e5];simp only [if_neg h2,Sem.run_bind,ui h0 da,Result.andThen_ok,kR,Sem.run_pure];rw [show (parts.map λx=>match x with | (i,x)=>(i,ac.eval x))=parts.map λ(q:Nat×Operand)=>(q.1,ac.eval q.2) from rfl,hparts,yV];simp [newRow]
 have hg:=World.grownBy_alloc w (.cells vs.toArray e) none;refine ⟨_,_,none,hrun,hg,λ_ h=>(by cases h),Kp.of hg,λm q v _ h4 h5=>⟨cell_grown hg h4,gX hg h4 h5⟩,λm hm=>?_,cP ⟨⟨_,_,_,rfl⟩,λ_ h=>by cases h⟩ hx λw1 hw=>?_⟩
 ·simp only [blk,Option.some.injEq] at hm;subst hm;exact ⟨by simp,.inr (Nat.le_refl _)⟩
 ·have hrow:=World.ownsRow_lit (base:=0) (e:=e) (size:=1) w vs.toArray len (by omega) (by simp only [maxLen];omega) (by simp [hlen]);refine bh.intro (ss:=vs) hlen ?_ λi s hs w2 hw2=>?_
  ·refine er.keep (w:=w.alloc (.cells vs.toArray e)) ⟨by simpa using hrow,λg cur e' p' hg' hh u hu=>?_⟩ λg hg'=>?_
   ·simp only [Value.ownBlock,Option.some.injEq] at hg';subst hg';rw [heap_alloc_new] at hh;cases hh;obtain ⟨q,n,c,rfl⟩:=hsl u (by simpa using hu);exact λ_ _ _ h=>by cases h
   ·simp only [Value.ownBlock,Option.some.injEq] at hg';subst hg';exact hw.2 _ (by simp) (λh=>by have:=hX _ h;omega)
  ·have hi:=(List.getElem?_eq_some_iff.1 hs).1;have hp:ps[i]?=some (ps[i]'(by omega)):=List.getElem?_eq_getElem (by omega);refine (hF i _ hp w2 _ (hv i _ _ hp hs w2 (((Off.grown hg).trans hw λ_ _ h=>h).trans hw2 λm hm h=>?_))).2;simp only [blk,Option.some.injEq] at h;omega
theorem Jg {G:WP} (hp:Im Φ p G) (hS:∀w s,F 0 w s->∃p n c,s = .slice p n c) (hG:∀w v,G w v->F 0 w v) (hx:Φ x=bh 38 F 1):aj Φ prog ⟨0,[.any,.fact p],[oS x],.loose [] j 0 (dl 52 1)⟩:=
 abB (ps:=[p]) (zc:=.one .nl) underlying52 rfl (λi _ h w v hv=>by
  match i,h with
  | 0,h=>
   obtain rfl:=Option.some.inj h;exact ⟨hS w v (hG w v (hp w v hv)),hG w v (hp w v hv)⟩
  | i+1,h=>simp at h) hx
end
def abC (a d:Int) (k:Nat):List WP:=[Rw 4 (Zf (ae [a,d]) k) 2,Nz 2,Rw 4 (Zf (ae [a,d]) k) 2,bh 38 (bZ (lfa a d) k) 1,fb 1,Nz 1,Nz 0,At 1,gp ((bZ (lfa a d) k) 0),Rw 4 (Zf (ae [a,d]) k) 2,Nz 2,Nz 1,Nz 0,At 1,gp ((bZ (lfa a d) k) 0),Rw 4 (Zf (ae [a,d]) k) 2,Rw 4 (Zf (ae [d]) k) 1,Rw 4 (Zf (ae [1]) k) 1,aK (bZ (lfa a d) k) 1,bh 38 (bZ (lfa a d) k) 2,fb 2,Nz 2,Nz 1,At 1,gp ((bZ (lfa a d) k) 1),Rw 4 (Zf (ae [1]) k) 1,Nz 1,Ni (1),λw v=>Rw 1 (λi _ v=>v = .agg #[.int .i64 (ae [1] i)]) 1 w v,Rw 4 (Zf (ae [1]) k) 1,aK (bZ (lfa a d) k) 2,bh 38 (bZ (lfa a d) k) 3,fb 3,Nz 3,Ni (2),Ni (0),At 1,gp ((bZ (lfa a d) k) 0),Rw 4 (Zf (ae [a,d]) k) 2,At 1,gp ((bZ (lfa a d) k) 1),Rw 4 (Zf (ae [1]) k) 1,Rw 4 (Zf (ae [a,d]) k) 2,Rw 4 (Zf (ae []) k) 0,At 1,gp ((bZ (lfa a d) k) 1),Rw 4 (Zf (ae [1]) k) 1,At 1,gp ((bZ (lfa a d) k) 2),Rw 4 (Zf (ae [1]) k) 1,Rw 4 (Zf (ae [1]) k) 1,Rw 4 (Zf (ae []) k) 0,Rw 4 (Zf (ae [a,d]) k) 2,Rw 4 (Zf (ae [1]) k) 1,Rw 4 (Zf (ae [a,d]) k) 2,Rw 4 (Zf (ae []) k) 0,Rw 4 (Zf (ae [a,d]) k) 2,aK (bZ (iV a d) k) 0,bh 38 (bZ (iV a d) k) 0,bh 38 (bZ (iV a d) k) 1,Nz 3,Ni (3)]
def abD:List Step:=[bQ [0] [oN 1] (aC 38),bQ [1,.lit (Ai 2)] oF (am .lss),
   cB 148 [0] [oS 2],.base ⟨0,[.any,2],[oS 3],.loose [] 2 0 (dl 52 1)⟩,.rounds 2,.freed (.one (.s 10 0)) 3 4,bQ [4] [oN 5] (aC 52),bQ [5,.lit (Ai 1)] [oN 6] (am .sub),.base ⟨0,[3,6],[oP 8],.joint [2] 7 (adK 52)⟩,.base ⟨0,[.any,.any,8],[oS 9],.iK [] 2 0 7 (jI 38 (.tmp 20) (.tmp 23))⟩,bQ [9] [oN 10] (aC 38),bQ [10,.lit (Ai 1)] oT (am .gtr),bQ [4] [oN 11] (aC 52),bQ [11,.lit (Ai 1)] [oN 12] (am .sub),.base ⟨0,[3,12],[oP 14],.joint [2] 13 (adK 52)⟩,.base ⟨0,[.any,.any,14],[oS 15],.iK [] 2 0 13 (jI 38 (.tmp 28) (.tmp 31))⟩,
   cB 56 [15] [oS 16],
   cB 129 [15,16] [⟨.one (.s),[(0,0,17),(0,2,18)]⟩],.base ⟨0,[3,.row 1 [18]],[oS 19],.loose [] 2 0 (cA 52 52)⟩,.freed (.one (.s 33 0)) 19 20,bQ [20] [oN 21] (aC 52),bQ [21,.lit (Ai 1)] [oN 22] (am .sub),.base ⟨0,[19,22],[oP 24],.joint [2] 23 (adK 52)⟩,.base ⟨0,[.any,.any,24],[oS 25],.iK [] 2 0 23 (jI 38 (.tmp 20) (.tmp 23))⟩,bQ [25] [oN 26] (aC 38),bQ [26,.lit (Ai 1)] oF (am .gtr),.derive (.one (Ai 1)) (.one (.lit (Ai 1))) [] 27,.base ⟨0,[.any,27],[oS 28],.fresh [] (dl 22 1)⟩,
   cB 11 [28] [⟨.one (.s),[(0,0,29),(0,2,30)]⟩],.base ⟨0,[19,.row 1 [30]],[oS 31],.loose [] 2 0 (cA 52 52)⟩,.rounds 2,.freed (.one (.s 47 0)) 31 32,.derive (.one (Ai 2)) (.one (.lit (Ai 2))) [] 34,bQ [32] [oN 33] (aC 52),bQ [34,33] oT (am .lss),.derive (.one (Ai 0)) (.one (.lit (Ai 0))) [] 35,.base ⟨0,[31,35],[oP 37],.joint [2] 36 (adK 52)⟩,.base ⟨0,[.any,.any,37],[oS 38],.iK [] 2 0 36 (jI 38 (.tmp 54) (.tmp 55))⟩,.base ⟨0,[31,27],[oP 40],.joint [2] 39 (adK 52)⟩,.base ⟨0,[.any,.any,40],[oS 41],.iK [] 2 0 39 (jI 38 (.tmp 58) (.tmp 60))⟩,.base ⟨149,[38,41],[oS 42,oS 43],true⟩,.base ⟨0,[31,27],[oP 45],.joint [2] 44 (adK 52)⟩,.base ⟨0,[.any,.any,45],[oS 46],.iK [] 2 0 44 (jI 38 (.tmp 67) (.tmp 69))⟩,.base ⟨0,[31,34],[oP 48],.joint [2] 47 (adK 52)⟩,.base ⟨0,[.any,.any,48],[oS 49],.iK [] 2 0 47 (jI 38 (.tmp 72) (.tmp 74))⟩,.base ⟨149,[46,49],[oS 50,oS 51],true⟩,
   cB 148 [42] [oS 52],
   cB 148 [50] [oS 53],.base ⟨149,[52,53],[oS 54,oS 55],true⟩,.derive (.one (.nl)) (.one (.lit (.nl))) [] 58,
   cB 148 [54] [⟨.one (.s),[(0,0,56),(0,2,57)]⟩],.base ⟨0,[58,.row 1 [57]],[oS 59],.loose [] 1 0 (cA 52 52)⟩,.derive (.one (Ai 3)) (.one (.lit (Ai 3))) [] 61,bQ [32] [oN 60] (aC 52),bQ [61,60] oF (am .lss)]
def abE:List Out:=[oS 0]
theorem abF  (h:cZ a d k):eT (ph (abC a d k)) prog ⟨126,[0],[oS 59],false⟩:=by
 have hk1:=h.k1;have hk2:=h.k2;exact iJ abE [oS 59] abD func126 (by kernel_rfl) (lB (aM (F:=(Zf (ae [a,d]) k)) underlying38 ad rfl) (lB (cn (op:=.lss) ad (bz (rfl) (by simp))) (lB (ug h ad rfl) (lB (Jg (F:=(bZ (lfa a d) k)) ad (gY _ _ _) ad rfl) (iA (gu (qa (e:=38) (n:=1) (F:=(bZ (lfa a d) k)) ad rfl) (lB (eH (n:=1) underlying52 ad rfl) (lB (cO ad rfl) (lB (ji (i:=0) (n:=1) (F:=(bZ (lfa a d) k)) underlying52 ad ad rfl rfl) (lB (lw (G:=((bZ (lfa a d) k) 0)) (.tmp 20) (.tmp 23) (iO _ _ _) (λ_ _ h=>gY _ _ _ _ _ h) ad rfl rfl) (lB (aM (F:=(Zf (ae [a,d]) k)) underlying38 ad rfl) (lB (cn (op:=.gtr) ad (bz (rfl) (by simp))) (lB (eH (n:=1) underlying52 ad rfl) (lB (cO ad rfl) (lB (ji (i:=0) (n:=1) (F:=(bZ (lfa a d) k)) underlying52 ad ad rfl rfl) (lB (lw (G:=((bZ (lfa a d) k) 0)) (.tmp 28) (.tmp 31) (iO _ _ _) (λ_ _ h=>gY _ _ _ _ _ h) ad rfl rfl) (lB (Je h ad rfl) (lB (jQ (F:=(bZ (lfa a d) k)) (i:=1) (abA h ad ad rfl) rfl ad) (lB (jg (n:=1) (F:=(bZ (lfa a d) k)) underlying52 (gY _ _) (iO _ _) ad ad rfl) (gu (qa (e:=38) (n:=2) (F:=(bZ (lfa a d) k)) ad rfl) (lB (eH (n:=2) underlying52 ad rfl) (lB (cO ad rfl) (lB (ji (i:=1) (n:=2) (F:=(bZ (lfa a d) k)) underlying52 ad ad rfl rfl) (lB (lw (G:=((bZ (lfa a d) k) 1)) (.tmp 20) (.tmp 23) (iO _ _ _) (λ_ _ h=>gY _ _ _ _ _ h) ad rfl rfl) (lB (aM (F:=(Zf (ae [1]) k)) underlying38 ad rfl) (lB (cn (op:=.gtr) ad (bz (rfl) (by simp))) (bk (dC rfl) (lB (fM (ps:=[27]) (sz:=1) (n:=1) (F:=(λi _ v=>v = .agg #[.int .i64 (ae [1] i)])) (zc:=.one (Ai 0)) underlying22 rfl (ow ad) rfl) (lB (jQ (F:=(bZ (lfa a d) k)) (i:=2) (Jf (a:=a) (d:=d) h ad rfl) rfl ad) (lB (jg (n:=2) (F:=(bZ (lfa a d) k)) underlying52 (gY _ _) (iO _ _) ad ad rfl) (iA (gu (qa (e:=38) (n:=3) (F:=(bZ (lfa a d) k)) ad rfl) (bk (dC rfl) (lB (eH (n:=3) underlying52 ad rfl) (lB (eJ (op:=.lss) ad ad (bz (rfl) (by simp))) (bk (dC rfl) (lB (ji (i:=0) (n:=3) (F:=(bZ (lfa a d) k)) underlying52 ad ad rfl rfl) (lB (lw (G:=((bZ (lfa a d) k) 0)) (.tmp 54) (.tmp 55) (iO _ _ _) (λ_ _ h=>gY _ _ _ _ _ h) ad rfl rfl) (lB (ji (i:=1) (n:=3) (F:=(bZ (lfa a d) k)) underlying52 ad ad rfl rfl) (lB (lw (G:=((bZ (lfa a d) k) 1)) (.tmp 58) (.tmp 60) (iO _ _ _) (λ_ _ h=>gY _ _ _ _ _ h) ad rfl rfl) (lB (Jd h ad ad rfl rfl) (lB (ji (i:=1) (n:=3) (F:=(bZ (lfa a d) k)) underlying52 ad ad rfl rfl) (lB (lw (G:=((bZ (lfa a d) k) 1)) (.tmp 67) (.tmp 69) (iO _ _ _) (λ_ _ h=>gY _ _ _ _ _ h) ad rfl rfl) (lB (ji (i:=2) (n:=3) (F:=(bZ (lfa a d) k)) underlying52 ad ad rfl rfl) (lB (lw (G:=((bZ (lfa a d) k) 2)) (.tmp 72) (.tmp 74) (iO _ _ _) (λ_ _ h=>gY _ _ _ _ _ h) ad rfl rfl) (lB (abr h ad ad rfl rfl) (lB (ug h ad rfl) (lB (abp h ad rfl) (lB (Jd h ad ad rfl rfl) (bk (wU (G:=bh 38 (bZ (iV a d) k) 0) rfl (λw=>bh.nil 38 (bZ (iV a d) k) w)) (lB (jQ (F:=(bZ (iV a d) k)) (i:=0) (ug h ad rfl) rfl ad) (lB (jg (n:=0) (F:=(bZ (iV a d) k)) underlying52 (gY _ _) (iO _ _) ad ad rfl) (bk (dC rfl) (lB (eH (n:=3) underlying52 ad rfl) (lB (eJ (op:=.lss) ad ad (bz (rfl) (by simp))) au)))))))))))))))))))))))))))))))))))))))))))))))))))))))
  (aP [.fact 0 (.one (.s))] ⟨Rw.Is 4 (Zf (ae [a,d]) k) 2,trivial⟩) aV
section
variable {y l:Nat}{J:List Nat}
theorem abG (h:cZ a d k) (hp:∀w v,Φ p w v->Rw 4 (λi w v=>ah w v ((ae [a,d] i:Int):Rat) k) 2 w v) (hx:Φ x=Rw 1 (aK (bZ (iV a d) k)) 1):aj Φ prog ⟨126,[.fact p],[oS x],false⟩:=
 aU (eT.call (md:=false) (abF h)) ⟨hp,trivial⟩ ⟨⟨rfl,⟨rfl,rfl,λ_ _ h=>by
  rw [hx];exact bh.rw (e:=38) h⟩,trivial⟩,trivial⟩
end
def abH (a d:Int) (k:Nat):List WP:=[Rw 4 (Zf (ae [a,d]) k) 2,Nz 2,Ni (1),λw v=>Rw 1 (λi _ v=>v = .agg #[.int .i64 (ae [1] i)]) 1 w v,Rw 4 (Zf (ae [1]) k) 1,Rw 1 (aK (bZ (iV a d) k)) 1,Nz 1,Ni (0),Ptr 1 (aK (bZ (iV a d) k) 0),Rw 4 (Zf (ae [a,d]) k) 2,Rw 4 (Zf (ae [a,d]) k) 2]
def abI:List Step:=[bQ [0] [oN 1] (aC 38),bQ [1,.lit (Ai 0)] oF (am .eql),.derive (.one (Ai 1)) (.one (.lit (Ai 1))) [] 2,.base ⟨0,[.any,2],[oS 3],.fresh [] (dl 22 1)⟩,
   cB 11 [3] [oS 4],
   cB 126 [0] [oS 5],bQ [5] [oN 6] (aC 52),.rounds 2,.derive (.one (Ai 0)) (.one (.lit (Ai 0))) [] 7,bQ [7,6] oT (am .lss),bQ [5,.lit (Ai 0)] [oP 8] (adK 52),bQ [8] [oS 9] (aQ 38),
   cB 127 [4,9] [oS 10],bQ [2,6] oF (am .lss)]
def abJ:List Out:=[oS 0]
theorem ag  (h:cZ a d k):aj (ph (abH a d k)) prog ⟨86,[0],[oS 10],false⟩:=by
 have hk1:=h.k1;have hk2:=h.k2;exact adL abJ [oS 10] abI func86 (by kernel_rfl) (lB (aM (F:=(Zf (ae [a,d]) k)) underlying38 ad rfl) (lB (cn (op:=.eql) ad (bz (rfl) (by simp))) (bk (dC rfl) (lB (fM (ps:=[2]) (sz:=1) (n:=1) (F:=(λi _ v=>v = .agg #[.int .i64 (ae [1] i)])) (zc:=.one (Ai 0)) underlying22 rfl (ow ad) rfl) (lB (Jf (a:=a) (d:=d) h ad rfl) (lB (abG h ad rfl) (lB (aM (F:=(aK (bZ (iV a d) k))) underlying52 ad rfl) (iA (bk (dC rfl) (lB (eJ (op:=.lss) ad ad (bz (rfl) (by simp))) (lB (eg 0 (sz:=1) (n:=1) (F:=(aK (bZ (iV a d) k))) underlying52 (λ_ _ h=>Rw.arr h) rfl rfl) (lB (iH (G:=Rw 4 (Zf (ae [a,d]) k) 2) ad (λ_ _ h=>fD h) rfl) (lB (abs h ad ad rfl) (lB (eJ (op:=.lss) ad ad (bz (rfl) (by simp))) au))))))))))))))
  (aP [.fact 0 (.one (.s))] ⟨Rw.Is 4 (Zf (ae [a,d]) k) 2,trivial⟩) aV
section
variable {y l:Nat}{J:List Nat}
theorem abK (h:cZ a d k) (hp:∀w v,Φ p w v->Rw 4 (λi w v=>ah w v ((ae [a,d] i:Int):Rat) k) 2 w v) (hx:Φ x=λw v=>Rw 4 (λi w v=>ah w v ((ae [a,d] i:Int):Rat) k) 2 w v):aj Φ prog ⟨86,[.fact p],[oS x],false⟩:=
 aU (ag h) ⟨hp,trivial⟩ ⟨⟨rfl,⟨rfl,rfl,λ_ _ h=>hx▸h⟩,trivial⟩,trivial⟩
end
def abL (a d:Int) (k:Nat):List WP:=[Rw 4 (Zf (ae [a,d]) k) 2,Rw 4 (Zf (ae [a,d]) k) 2,bh 38 (bZ (lfa a d) k) 1,Rw 4 (Zf (ae [d]) k) 1,Rw 4 (Zf (ae [1]) k) 1,Nz 1,aK (bZ (lfa a d) k) 1,bh 38 (bZ (lfa a d) k) 2,fb 2,Nz 2,Nz 0,At 1,gp ((bZ (lfa a d) k) 0),Rw 4 (Zf (ae [a,d]) k) 2,Rw 4 (Zf (ae []) k) 0,Rw 4 (Zf (ae []) k) 0,Rw 4 (Zf (ae []) k) 0,Nz 0]
def abM:List Step:=[cB 86 [0] [oS 1],.base ⟨0,[.any,1],[oS 2],.loose [] 1 0 (dl 52 1)⟩,
   cB 56 [1] [oS 3],
   cB 87 [3] [oS 4],.rounds 2,bQ [4] [oN 5] (aC 38),bQ [5,.lit (Ai 0)] oT (am .gtr),.derive (.agg [.s 10 0]) (.agg [.s]) [(0,1,4)] 6,.base ⟨0,[2,.row 1 [6]],[oS 7],.loose [] 1 0 (cA 52 52)⟩,.freed (.one (.s 18 0)) 7 8,bQ [8] [oN 9] (aC 52),bQ [9,.lit (Ai 2)] [oN 10] (am .sub),.base ⟨0,[7,10],[oP 12],.joint [1] 11 (adK 52)⟩,.base ⟨0,[.any,.any,12],[oS 13],.iK [] 1 0 11 (jI 38 (.tmp 20) (.tmp 23))⟩,
   cB 89 [13,4] [oS 14],
   cB 87 [14] [oS 15],
   cB 88 [15] [oS 16],bQ [16] [oN 17] (aC 38),bQ [17,.lit (Ai 0)] oF (am .gtr)]
def abN:List Out:=[oS 0]
theorem abO  (h:cZ a d k):aj (ph (abL a d k)) prog ⟨54,[0],[⟨.one (.s),[]⟩],false⟩:=by
 have hk1:=h.k1;have hk2:=h.k2;exact adL abN [⟨.one (.s),[]⟩] abM func54 (by kernel_rfl) (lB (abK h ad rfl) (lB (Jg (F:=(bZ (lfa a d) k)) ad (gY _ _ _) ad rfl) (lB (Je h ad rfl) (lB (abt h ad rfl) (iA (lB (aM (F:=(Zf (ae [1]) k)) underlying38 ad rfl) (lB (cn (op:=.gtr) ad (bz (rfl) (by simp))) (bk (Sf (F:=(bZ (lfa a d) k)) (i:=1) rfl ad) (lB (jg (n:=1) (F:=(bZ (lfa a d) k)) underlying52 (gY _ _) (iO _ _) ad ad rfl) (gu (qa (e:=38) (n:=2) (F:=(bZ (lfa a d) k)) ad rfl) (lB (eH (n:=2) underlying52 ad rfl) (lB (cO ad rfl) (lB (ji (i:=0) (n:=2) (F:=(bZ (lfa a d) k)) underlying52 ad ad rfl rfl) (lB (lw (G:=((bZ (lfa a d) k) 0)) (.tmp 20) (.tmp 23) (iO _ _ _) (λ_ _ h=>gY _ _ _ _ _ h) ad rfl rfl) (lB (Jb h ad ad rfl) (lB (abu h ad rfl) (lB (abv h ad rfl) (lB (aM (F:=(Zf (ae []) k)) underlying38 ad rfl) (lB (cn (op:=.gtr) ad (bz (rfl) (by simp))) au)))))))))))))))))))
  (aP [.fact 0 (.one (.s))] ⟨Rw.Is 4 (Zf (ae [a,d]) k) 2,trivial⟩) aV
section
variable {y l:Nat}{J:List Nat}
theorem abP (h:cZ a d k) (hp:∀w v,Φ p w v->Rw 4 (λi w v=>ah w v ((ae [a,d] i:Int):Rat) k) 2 w v):aj Φ prog ⟨54,[.fact p],[⟨.one .s,[]⟩],false⟩:=
 aU (abO h) ⟨hp,trivial⟩ ⟨⟨rfl,trivial⟩,trivial⟩
theorem abQ (h:cZ a d k){k1 k2:Nat} (hp:Im Φ p (Dw ((a:Int):Rat) k1)) (hq:Im Φ q (Dw ((d:Int):Rat) k2)) (hx:Φ x=λw v=>Rw 4 (λi w v=>ah w v ((ae [a,d] i:Int):Rat) k) 2 w v):aj Φ prog ⟨0,[.any,.fact p,.fact q],[oS x],.fresh J (dl 38 2)⟩:=
 fM (sz:=4) (ps:=[p,q]) (zc:=.agg [.nl,.cb false,.nl,.cb false]) underlying38 rfl (λi _ hi w v hv=>by
  match i,hi with
  | 0,hi=>
   obtain rfl:=Option.some.inj hi;exact ah.cells4 (ah.dm (hp w v hv) h.ba (dV h.k1))
  | 1,hi=>
   obtain rfl:=Option.some.inj hi;exact ah.cells4 (ah.dm (hq w v hv) h.bd (dV h.k1))) hx
end
def abR (t:Rat) (a d:Int) (kt k:Nat):List WP:=[Dw t kt,Jw t.num kt,Jw (t.den:Int) kt,Jw (1:Int) 2,Dw ((t.num:Int):Rat) (kt+2+2),Jw (((t.num:Int):Rat).num) (kt+2+2),Jw (((t.num:Int):Rat).den:Int) (kt+2+2),Dw ((a:Int):Rat) (kt+2+2),Jw (((a:Int):Rat).num) (kt+2+2),Jw (((a:Int):Rat).den:Int) (kt+2+2),Jw (1:Int) 2,Dw ((d:Int):Rat) (kt+2+2),Jw (((d:Int):Rat).num) (kt+2+2),Jw (((d:Int):Rat).den:Int) (kt+2+2),Rw 4 (Zf (ae [a,d]) k) 2]
def abS:List Step:=[cB 24 [.lit (Ai 1)] [oD 3],
   cB 53 [1,3] [⟨.agg [.s,.b,.s,.b],[(0,0,4),(0,2,5),(2,2,6)]⟩],
   cB 52 [4] [⟨.agg [.s,.b,.s,.b],[(0,0,7),(0,2,8),(2,2,9)]⟩],
   cB 24 [.lit (Ai 1)] [oD 10],
   cB 53 [2,10] [⟨.agg [.s,.b,.s,.b],[(0,0,11),(0,2,12),(2,2,13)]⟩],.base ⟨0,[.any,7,11],[oS 14],.fresh [] (dl 38 2)⟩,
   cB 54 [14] [⟨.one (.s),[]⟩]]
def abT:List Out:=[⟨.agg [.s,.b,.s,.b],[(0,0,0),(0,2,1),(2,2,2)]⟩]
theorem abU  (h:cZ a d k) (ha : -t.num=a) (hd:(t.den:Int)=d) (hkt:kt<=100):aj (ph (abR t a d kt k)) prog ⟨19,[0],[⟨.agg [.s,.s,.s,.b,.s,.b,.s,.b,.s,.b],[(2,4,0),(6,4,0)]⟩],false⟩:=by
 have hk1:=h.k1;have hk2:=h.k2;exact adL abT [⟨.agg [.s,.s,.s,.b,.s,.b,.s,.b,.s,.b],[(2,4,0),(6,4,0)]⟩] abS func19 (by kernel_rfl) (lB (fP (z:=1) rfl rfl) (lB (gv dD dD rfl rfl rfl (gg _)) (lB (wR tS rfl rfl rfl (by rw [<- ha,Rat.intCast_neg])) (lB (fP (z:=1) rfl rfl) (lB (gv dD dD rfl rfl rfl (by rw [gg,hd])) (lB (abQ h ad ad rfl) (lB (abP h ad) au)))))))
  (aP [.sub 0 (.agg [.s,.b,.s,.b]) [(0,2,1),(2,2,2)]] ⟨⟨λ_ _ h=>ah.is h,λ_ _ h=>ah.fst h,λ_ _ h=>ah.snd h,trivial⟩,trivial⟩) aV
section
variable {y l:Nat}{J:List Nat}
theorem Fo (h:cZ (-t.num) t.den k) (hp:Im Φ p (Dw t kt)) (hx:Φ x=Dw t kt) (hy:Φ y=Dw t kt) (hkt:kt<=100:=by omega):aj Φ prog ⟨19,[.fact p],[⟨aS,[(2,4,x),(6,4,y)]⟩],false⟩:=
 aU (abU h rfl rfl hkt) ⟨hp,trivial⟩ ⟨⟨rfl,⟨rfl,rfl,λ_ _ h=>hx▸h⟩,⟨rfl,rfl,λ_ _ h=>hy▸h⟩,trivial⟩,trivial⟩
theorem UH (t:Rat) (h1:Bd t.num.natAbs k) (h2:Bd t.den k) (hk:1<=k) (hk2:k<=50:=by omega):cZ (-t.num) t.den k where
 d0:=by have:=t.den_pos;omega
 g:=by rw [Int.neg_gcd];exact t.reduced
 ba:=by rw [Int.natAbs_neg];exact h1
 bd:=h2
 k1:=hk
 k2:=hk2
end
theorem abV  (h:∀i,Bd (ae L i).natAbs k) (hl:L.length<=1000) (i:Nat):Bd (ae (fw L) i).natAbs (k+1):=by
 rw [fw,cU];split
 ·rw [Int.natAbs_mul];exact Bd.mul (h _) (show (((i+1:Nat):Int)).natAbs<4294967296 ^ 1 by rw [Int.natAbs_natCast];omega)
 ·exact mh
theorem yW {L:List Int}{k:Nat} (h:∀i,Bd (ae L i).natAbs k) (hl:L.length<=1000):∀j i,Bd (ae (dfI j L) i).natAbs (k+j)
 | 0,i=>h i
 | j+1,i=>abV (yW h hl j) (by rw [pp];omega) i
theorem Jh {z:Nat->Int}{n k:Nat}{u d:Int} (hz:∀i,Bd (z i).natAbs k) (hu:Bd u.natAbs 1) (hd:Bd d.natAbs 1):∀j,Bd (gN z n u d j).natAbs (k+2*j+1)
 | 0=>mh
 | j+1=>by
  rw [YP];refine Bd.le (Bd.qA (A:=(gN z n u d j*u).natAbs) (B:=(z (n-1-j)*d ^ j).natAbs) (i:=k+2*j+2) ?_ ?_) (Int.natAbs_add_le _ _)
  ·rw [Int.natAbs_mul];exact (Bd.mul (Jh hz hu hd j) hu).more (by omega)
  ·rw [Int.natAbs_mul,Int.natAbs_pow];exact (Bd.mul (hz _) (Bd.qn hd j)).more (by omega)
theorem EOk.af {c:Nat} (h:EOk c k L) (hs:k+3*c<=900) (hu:Bd t.num.natAbs 1) (hd:Bd t.den 1) (hkt:kt<=100):ue L t 2004 kt 1000 where
 nr:=h.nrm
 len:=by have:=h.len;omega
 k1:=by omega
 hk:=by omega
 hkt:=hkt
 hkk:=by omega
 bd:=λj hj i=>(yW h.bd (by have:=h.len;omega) j i).more (by have:=h.len;omega)
 gb:=λj hj i hi=>by
  have h1:=h.len;rw [pp] at hi;have hd':Bd (((t.den:Nat):Int)).natAbs 1:=by rw [Int.natAbs_natCast];exact hd
  refine ⟨(Jh (yW h.bd (by omega) j) hu hd' i).more (by omega),?_⟩;rw [Int.natAbs_pow];exact (Bd.qn hd' i).more (by omega)
def GT (t:Rat) (kt:Nat) (w:World) (v:Value):Prop:=ah w (bS 2 4 v) t kt∧ah w (bS 6 4 v) t kt∧aS.is v
theorem GT.kp {w1:World} (h:GT t kt w v) (g:Kp w w1):GT t kt w1 v:=⟨ah.kp h.1 g,ah.kp h.2.1 g,h.2.2⟩
theorem abW {m:Op->Option (List Operand)}{f:Nat}{ls:List Arg}{sh:cC} (h:aj Φ P ⟨f,ls,[⟨sh,[(0,0,x)]⟩],.quiet m⟩) (hq:∀w v,Φ x w v->Φ q w (bS 2 4 v)) (hr:∀w v,Φ x w v->Φ r w (bS 6 4 v)):aj Φ P ⟨f,ls,[⟨sh,[(0,0,x),(2,4,q),(6,4,r)]⟩],.quiet m⟩:=λX w a o xs hX hm ha=>by
 obtain ⟨u,w',h1,h2,⟨h3,h4⟩,h5⟩:=h X w a o xs hX hm ha;refine ⟨u,w',h1,h2,⟨h3,λz hz w1 hw=>?_⟩,h5⟩;simp only [List.mem_cons,List.not_mem_nil,or_false] at hz;have h6:Φ x w1 u:=h4 _ (List.mem_singleton.2 rfl) w1 hw;rcases hz with rfl | rfl | rfl
 ·exact h6
 ·exact hq w1 u h6
 ·exact hr w1 u h6
section
variable {X0 Y0 X1 Y1 X2 Y2 X3 Y3:List Int}{d2 d3:Int}
theorem Fp:adJ 3 (orM X0 Y0 X1 Y1 X2 Y2 d0 d1 d2)=cN (adJ 3 (orM X1 Y1 X0 Y0 X2 Y2 d1 d0 d2)):=kH (nc _ _) (qw (nc _ _)) λ_=>by rw [lJ,uj,uj];grind
theorem Fq:adJ 3 (orM X0 Y0 X1 Y1 X2 Y2 d0 d1 d2)=adJ 3 (orM X1 Y1 X2 Y2 X0 Y0 d1 d2 d0):=kH (nc _ _) (nc _ _) λ_=>by rw [uj,uj];grind
theorem Fr:adJ 4 (cu X0 Y0 X1 Y1 X2 Y2 X3 Y3 d0 d1 d2 d3)=cN (adJ 4 (cu X0 Y0 X1 Y1 X3 Y3 X2 Y2 d0 d1 d3 d2)):=kH (nc _ _) (qw (nc _ _)) λ_=>by rw [lJ,Ji,Ji];unfold de4;grind
theorem Fs:dG X0 Y0 X1 Y1 X2 Y2 X3 Y3 d0 d1 d2 d3=cN (dG X2 Y2 X3 Y3 X0 Y0 X1 Y1 d2 d3 d0 d1):=kH (lI _ _) (qw (lI _ _)) λ_=>by rw [lJ,Jj,Jj];grind
theorem Ft:crL X0 X1 d0 d1=cN (crL X1 X0 d1 d0):=kH (lI _ _) (qw (lI _ _)) λ_=>by rw [lJ,Jk,Jk];grind
theorem iT (hX0:EOk 3 1 X0) (hY0:EOk 3 1 Y0) (hd0:EOk 1 1 [d0]) (hX1:EOk 3 1 X1) (hY1:EOk 3 1 Y1) (hd1:EOk 1 1 [d1]) (hX2:EOk 3 1 X2) (hY2:EOk 3 1 Y2) (hd2:EOk 1 1 [d2]):EOk 60 200 (adJ 3 (orM X0 Y0 X1 Y1 X2 Y2 d0 d1 d2)):=by
 have h:=sV (c:=3) (k:=1) 3 (orM X0 Y0 X1 Y1 X2 Y2 d0 d1 d2) λ_ j _ _=>by
  unfold orM;split
  ·exact nG hX0 hY0 (hd0.more (by omega) (by omega)) j
  ·split
   ·exact nG hX1 hY1 (hd1.more (by omega) (by omega)) j
   ·exact nG hX2 hY2 (hd2.more (by omega) (by omega)) j
 exact h.more (by omega) (by decide)
theorem uk  (hX:EOk 3 1 X) (hY:EOk 3 1 Y) (hd:EOk 1 1 [d]) (j:Nat):EOk 7 8 (kS X Y d j):=
 yX ((hX.mul hd).more (by omega) (by omega)) ((hY.mul hd).more (by omega) (by omega)) (((hX.mul hX).add (hY.mul hY)).more (by omega) (by omega)) ((hd.mul hd).more (by omega) (by omega)) j
theorem lV (hX0:EOk 3 1 X0) (hY0:EOk 3 1 Y0) (hd0:EOk 1 1 [d0]) (hX1:EOk 3 1 X1) (hY1:EOk 3 1 Y1) (hd1:EOk 1 1 [d1]) (hX2:EOk 3 1 X2) (hY2:EOk 3 1 Y2) (hd2:EOk 1 1 [d2]) (hX3:EOk 3 1 X3) (hY3:EOk 3 1 Y3) (hd3:EOk 1 1 [d3]):EOk 60 200 (adJ 4 (cu X0 Y0 X1 Y1 X2 Y2 X3 Y3 d0 d1 d2 d3)):=by
 have h:=sV (c:=7) (k:=8) 4 (cu X0 Y0 X1 Y1 X2 Y2 X3 Y3 d0 d1 d2 d3) λ_ j _ _=>by
  unfold cu;split
  ·exact uk hX0 hY0 hd0 j
  ·split
   ·exact uk hX1 hY1 hd1 j
   ·split
    ·exact uk hX2 hY2 hd2 j
    ·exact uk hX3 hY3 hd3 j
 exact h.more (by omega) (by decide)
theorem tE (hX0:EOk 3 1 X0) (hY0:EOk 3 1 Y0) (hd0:EOk 1 1 [d0]) (hX1:EOk 3 1 X1) (hY1:EOk 3 1 Y1) (hd1:EOk 1 1 [d1]) (hX2:EOk 3 1 X2) (hY2:EOk 3 1 Y2) (hd2:EOk 1 1 [d2]) (hX3:EOk 3 1 X3) (hY3:EOk 3 1 Y3) (hd3:EOk 1 1 [d3]):EOk 60 200 (dG X0 Y0 X1 Y1 X2 Y2 X3 Y3 d0 d1 d2 d3):=by have a:=(mj hX2 hY2 hd2 hX3 hY3 hd3).mul ((hd0.mul hd1).mul (hd0.mul hd1));have b:=(mj hX0 hY0 hd0 hX1 hY1 hd1).mul ((hd2.mul hd3).mul (hd2.mul hd3));exact (a.add b.neg).more (by omega) (by omega)
theorem tG (hX0:EOk 3 1 X0) (hX1:EOk 3 1 X1) (hd0:EOk 1 1 [d0]) (hd1:EOk 1 1 [d1]):EOk 60 200 (crL X0 X1 d0 d1):=(gQ hX0 hX1 hd0 hd1).more (by omega) (by omega)
end
def abX (L:List Int) (t:Rat) (kt:Nat):List WP:=[Rw 2 (Nf (ae L) 2000) L.length,Ptr 10 (GT t kt),Rw 4 (Zf (ae L) (2000+2+2)) L.length,GT t kt,Dw t kt,Dw t kt,Ni (cE L t)]
def abY:List Step:=[cB 23 [0] [oS 2],bQ [1] [⟨.agg [.s,.s,.s,.b,.s,.b,.s,.b,.s,.b],[(0,0,3),(2,4,4),(6,4,5)]⟩] (aQ 59),
   cB 22 [2,.parts aS [(2,4,4),(6,4,5)]] [oN 6]]
def abZ:List Out:=[oS 0,oP 1]
theorem ab0  (hA:ue L t 2004 kt kk):aj (ph (abX L t kt)) prog ⟨21,[0,1],[oN 6],false⟩:=adL abZ [oN 6] abY func21 (by kernel_rfl) (lB (ru (z:=ae L) (n:=L.length) (L:=L) (Rw.To 2 (Nf (ae L) 2000) L.length (λ_ _ _ _ h=>ak.i h)) rfl (hn:=(by have:=hA.len;omega)) (eU hA.nr)) (lB (abW (bT (sz:=10) (F:=GT t kt) ad (λ_ _ _ g h=>GT.kp h g) (λ_ _ h=>h.2.2) rfl) (λ_ _ h=>h.1) (λ_ _ h=>h.2.1)) (lB (abd (L:=L) (t:=t) (k:=2000+2+2) (kt:=kt) (kk:=kk) ad ad ad rfl hA) au)))
  (aP [.fact 0 (.one (.s)),.fact 1 (.one (.p))] ⟨Rw.Is 2 (Nf (ae L) 2000) L.length,λ_ _ h=>Ptr.is (sz:=10) (F:=GT t kt) h,trivial⟩) aV
theorem dY  (hq:Im Φ q (Dw t kt)) (hr:Im Φ r (Dw t kt)) (hp:Im Φ p (Rw 2 (Nf (ae L) 2000) L.length)) (hx:Φ x=Ni (cE L t)) (hA:ue L t 2004 kt kk):aj Φ prog ⟨21,[.parts aS [(2,4,q),(6,4,r)],.fact p],[oN x],.du 10⟩:=λX w B l vs hX hB hBs hl hc ha=>by
 match vs,ha with
 | [v],⟨⟨ha1,ha2⟩,ha3,_⟩=>
  have h0:=ab0 hA X w [v,.pointer (some ⟨B,0,none⟩)] hX ⟨λw1 hw=>hp _ _ (ha3 w1 hw),λw1 hw=>⟨B,0,rfl,l,hl,λj u hj=>by
   rw [Nat.zero_add,World.cell?_of_block (hw.2 B hBs hB)];exact hc j u hj,hq _ _ (ha2 (2,4,q) (by simp) w1 hw),hr _ _ (ha2 (6,4,r) (by simp) w1 hw),ha1⟩,trivial⟩
  refine h0.mono λe w' ⟨hg,us,he,ho⟩=>?_
  match us,ho with
  | [u],⟨⟨h3,h4⟩,_⟩=>
   refine ⟨hg,u,he,⟨⟨h3,λz hz w1 hw=>?_⟩,trivial⟩⟩;have e1:u = .int .i64 (cE L t):=h4 _ (List.mem_singleton.2 rfl) w' (Off.refl _ _);simp only [List.mem_singleton] at hz;subst hz;show Φ x w1 u;rw [hx];exact e1
theorem Jl  (he:e≠0):aG (e * -3) (λi=>z i * -3)=aG e z:=by
 funext i;have h1:=ul he;have h2:=ul (e:=e * -3) (by omega);unfold aG;rw [Rat.intCast_mul] at h2 ⊢;generalize aH 1 e=a at *
 generalize aH 1 (e * -3)=b at *
 generalize ((z i:Int):Rat)=u;generalize ((e:Int):Rat)=r at *
 generalize (((-3:Int):Int):Rat)=s at *
 have:s*b=a:=by grind
 grind
theorem Jm {z:Nat->Int}:∀n,tl (λi=>z i * -3) n=tl z n
 | 0=>rfl
 | n+1=>by
  rw [tl,tl,Jm n];by_cases h:z n=0
  ·rw [if_pos h,if_pos (by omega)]
  ·rw [if_neg h,if_neg (by omega)]
theorem FD  (h:d≠0∧e=d * -3∨d=0∧e = -3):ceE e=ceE d * -3:=by
 unfold ceE;rcases h with ⟨h,rfl⟩ | ⟨rfl,rfl⟩
 ·rw [if_neg h,if_neg (by omega)]
 ·rfl
theorem tH  (i:Nat):upto n (λi=>z i * -3) i=upto n z i * -3:=by
 unfold upto;split
 ·rfl
 ·rfl
theorem gk.sc {x:Nat->Int} (h:gk x y n m d X Y D) (he:ceE e=ceE d * -3):gk (λi=>x i * -3) (λi=>y i * -3) n m e X Y D:=by obtain ⟨h1,h2,h3⟩:=h;have a:=Jl (z:=x) (pt d);have b:=Jl (z:=y) (pt d);constructor <;> simp only [dN,fx,he,a,b,Jm] at * <;> assumption
theorem CuG.mr {x:Nat->Int} (h:CuG x y n m d X Y D 3 1):CuG x y n m d X Y D 3 4:=⟨h.nu,h.hn,h.hm,by omega,by omega,h.c2,h.oX.more (by omega) (by omega),h.oY.more (by omega) (by omega),h.oD.more (by omega) (by omega)⟩
theorem CuG.sc {x:Nat->Int} (h:CuG x y n m d X Y D 3 1) (he:ceE e=ceE d * -3):CuG (λi=>x i * -3) (λi=>y i * -3) n m e X Y D 3 4:=
 have g:=h.mr
 ⟨h.nu.sc he,h.hn,h.hm,g.k1,g.k2,g.c2,g.oX,g.oY,g.oD⟩
theorem gz (L:List Int) (t:Rat) : -1<=cE L t∧cE L t<=1:=by
 have h:∀(n:Nat) (L:List Int),-1<=hH t n L∧hH t n L<=1:=λn=>by
  induction n with
  | zero=>intro L;unfold hH;omega
  | succ n ih=>
   intro L;unfold hH;split
   ·exact ih _
   ·unfold sgA cK;split
    ·omega
    ·split <;> omega
 exact h _ _
theorem jT  (h:a=b):ub .neq a b=false:=decide_eq_false λg=>g h
theorem tI  (h:a=b):ub .eql a b=true:=decide_eq_true h
theorem Rw.iM {l:Nat} (h:Rw 2 (If z k) n w v) (hk:k<=l):Rw 2 (If z l) n w v:=Rw.to (sz:=2) (n:=n) h λ_ _ _ _ h=>h.more hk
section
variable {x y:Nat->Nat->Int}{nx ny:Nat->Nat}{d:Nat->Int}{X Y:Nat->List Int}{D:Nat->Int}
theorem aO (hC:∀i,i<4->CuG (x i) (y i) (nx i) (ny i) (d i) (X i) (Y i) (D i) 3 1) (hu:Bd t.num.natAbs 1) (hd:Bd t.den 1) (i j k:Nat) (hi:i<4:=by omega) (hj:j<4:=by omega) (hk:k<4:=by omega):ue (adJ 3 (orM (X i) (Y i) (X j) (Y j) (X k) (Y k) (D i) (D j) (D k))) t 2004 6 1000:=
 (iT (hC i hi).oX (hC i hi).oY (hC i hi).oD (hC j hj).oX (hC j hj).oY (hC j hj).oD (hC k hk).oX (hC k hk).oY (hC k hk).oD).af (by omega) hu hd (by omega)
theorem aI (hC:∀i,i<4->CuG (x i) (y i) (nx i) (ny i) (d i) (X i) (Y i) (D i) 3 1) (hu:Bd t.num.natAbs 1) (hd:Bd t.den 1) (i j k l:Nat) (hi:i<4:=by omega) (hj:j<4:=by omega) (hk:k<4:=by omega) (hl:l<4:=by omega):ue (adJ 4 (cu (X i) (Y i) (X j) (Y j) (X k) (Y k) (X l) (Y l) (D i) (D j) (D k) (D l))) t 2004 6 1000:=
 (lV (hC i hi).oX (hC i hi).oY (hC i hi).oD (hC j hj).oX (hC j hj).oY (hC j hj).oD (hC k hk).oX (hC k hk).oY (hC k hk).oD (hC l hl).oX (hC l hl).oY (hC l hl).oD).af (by omega) hu hd (by omega)
theorem aF (hC:∀i,i<4->CuG (x i) (y i) (nx i) (ny i) (d i) (X i) (Y i) (D i) 3 1) (hu:Bd t.num.natAbs 1) (hd:Bd t.den 1) (i j k l:Nat) (hi:i<4:=by omega) (hj:j<4:=by omega) (hk:k<4:=by omega) (hl:l<4:=by omega):ue (dG (X i) (Y i) (X j) (Y j) (X k) (Y k) (X l) (Y l) (D i) (D j) (D k) (D l)) t 2004 6 1000:=
 (tE (hC i hi).oX (hC i hi).oY (hC i hi).oD (hC j hj).oX (hC j hj).oY (hC j hj).oD (hC k hk).oX (hC k hk).oY (hC k hk).oD (hC l hl).oX (hC l hl).oY (hC l hl).oD).af (by omega) hu hd (by omega)
theorem aR (hC:∀i,i<4->CuG (x i) (y i) (nx i) (ny i) (d i) (X i) (Y i) (D i) 3 1) (hu:Bd t.num.natAbs 1) (hd:Bd t.den 1) (i j:Nat) (hi:i<4:=by omega) (hj:j<4:=by omega):ue (crL (X i) (X j) (D i) (D j)) t 2004 6 1000:=
 (tG (hC i hi).oX (hC j hj).oX (hC i hi).oD (hC j hj).oD).af (by omega) hu hd (by omega)
end
theorem pC  (hA:ue L t 2004 6 1000) (hq:Im Φ q (Dw t 6)) (hr:Im Φ r (Dw t 6)) (hp:Im Φ p (Rw 2 (Nf (ae L) 2000) L.length)) (hx:Φ x=Ni (cE L t)):aj Φ prog ⟨21,[.parts aS [(2,4,q),(6,4,r)],.fact p],[oN x],.du 10⟩:=dY hq hr hp hx hA
theorem adM  (hp:Im Φ p (Ni (cE L t))) (hx:Φ x=Ni (-(cE L t))):aj Φ P ⟨0,[.fact p],[oN x],.quiet (jS .neg)⟩:=lS hp rfl hx (by have:=gz L t;omega) (by have:=gz L t;omega)
section
variable {l:Nat}{z y:Int}
end
section
variable {l:Nat}
end
section
variable {l:Nat}
end
def ad2 (d:Int) (k:Nat):List WP:=[Iw d k,Nw d k]
def ad3:List Step:=[cB 63 [0] [oI 1],
   cB 64 [1] oF]
def ad4:List Out:=[⟨.agg [.s,.s,.b,.s],[(2,2,0)]⟩]
theorem ad5  (hd:d≠0) (hk:k<=100000):aj (ph (ad2 d k)) prog ⟨99,[.parts (.agg [.s,.s,.b,.s]) [(2,2,0)]],[oI 1],false⟩:=adL ad4 [oI 1] ad3 func99 (by kernel_rfl) (lB (oB iI rfl rfl) (lB (uo nN (decide_eq_false hd)) au))
  (aP [.parts (.agg [.s,.s,.b,.s]) [(2,2,0)]] ⟨trivial,trivial⟩) aV
def ad6 (k:Nat):List WP:=[Iw (0:Int) k,Nw (0:Int) k,Nw (1:Int) 2]
def ad7:List Step:=[cB 63 [0] [oI 1],
   cB 64 [1] oT,
   cB 68 [.lit (Ai 1)] [oI 2]]
def ad8:List Out:=[⟨.agg [.s,.s,.b,.s],[(2,2,0)]⟩]
theorem ad9  (hk:k<=100000):aj (ph (ad6 k)) prog ⟨99,[.parts (.agg [.s,.s,.b,.s]) [(2,2,0)]],[oI 2],false⟩:=adL ad8 [oI 2] ad7 func99 (by kernel_rfl) (lB (oB iI rfl rfl) (lB (uo nN rfl) (lB (wA (z:=1) rfl rfl) au)))
  (aP [.parts (.agg [.s,.s,.b,.s]) [(2,2,0)]] ⟨trivial,trivial⟩) aV
theorem JD  (hp:Im Φ p (Iw d k)) (hx:Φ x=Nw (ceE d) k) (hk:k<=100000:=by omega) (hk1:1<=k:=by omega):aj Φ prog ⟨99,[.parts cS [(2,2,p)]],[⟨iS,[(0,0,x)]⟩],false⟩:=by
 by_cases hd:d=0
 ·subst hd;exact aU (ad9 hk) ⟨⟨rfl,⟨rfl,rfl,hp⟩,trivial⟩,trivial⟩ ⟨⟨rfl,⟨rfl,rfl,λ_ _ h=>by rw [hx];exact ak.re h (dV hk1)⟩,trivial⟩,trivial⟩
 ·exact aU (ad5 hd hk) ⟨⟨rfl,⟨rfl,rfl,hp⟩,trivial⟩,trivial⟩ ⟨⟨rfl,⟨rfl,rfl,λ_ _ h=>by rw [hx,show ceE d=d from if_neg hd];exact h⟩,trivial⟩,trivial⟩
def scL (z:Nat->Int) (n:Nat) (y:Int):List Int:=aw (mk n λi=>z i*y)
theorem uu (z:Nat->Int) (n:Nat) (y:Int):(scL z n y).length=tl (λi=>z i*y) n:=fF _ _
theorem uw (z:Nat->Int) (n:Nat) (y:Int) (i:Nat):upto (scL z n y).length (ae (scL z n y)) i=upto n z i*y:=by
 rw [GV,scL,ig,cU];unfold upto;split
 ·rfl
 ·rw [Int.zero_mul]
theorem JE :(∀i,upto (scL z n a).length (ae (scL z n a)) i=upto (scL y m b).length (ae (scL y m b)) i) ↔ ∀i,upto n z i*a=upto m y i*b:=by
 constructor
 ·intro h i;have:=h i
  rwa [uw,uw] at this
 ·intro h i;rw [uw,uw];exact h i
def aea (x0 y0 x1 y1:Nat->Int) (n0 m0 n1 m1:Nat) (d0 d1:Int) (k:Nat):List WP:=[Rw 2 (If x0 k) n0,Rw 2 (If y0 k) m0,Iw d0 k,Rw 2 (If x1 k) n1,Rw 2 (If y1 k) m1,Iw d1 k,Nw (ceE d0) k,Nw (ceE d1) k,Rw 2 (Nf (ae (scL x0 n0 (ceE d1))) (k+k)) ((scL x0 n0 (ceE d1)).length),Rw 2 (Nf (ae (scL x1 n1 (ceE d0))) (k+k)) ((scL x1 n1 (ceE d0)).length),Rw 2 (Nf (ae (scL y0 m0 (ceE d1))) (k+k)) ((scL y0 m0 (ceE d1)).length),Rw 2 (Nf (ae (scL y1 m1 (ceE d0))) (k+k)) ((scL y1 m1 (ceE d0)).length)]
def aeb:List Step:=[cB 99 [.parts cS [(2,2,2)]] [oI 6],
   cB 99 [.parts cS [(2,2,5)]] [oI 7],
   cB 74 [0,7] [oS 8],
   cB 74 [3,6] [oS 9],
   cB 100 [8,9] oT,
   cB 74 [1,7] [oS 10],
   cB 74 [4,6] [oS 11],
   cB 100 [10,11] oT]
def aec:List Out:=[⟨.agg [.s,.s,.b,.s],[(0,1,0),(1,1,1),(2,2,2)]⟩,⟨.agg [.s,.s,.b,.s],[(0,1,3),(1,1,4),(2,2,5)]⟩]
theorem aed  (hk:k<=1000) (hk1:1<=k) (hn0:n0<=1000) (hm0:m0<=1000) (hn1:n1<=1000) (hm1:m1<=1000) (hX:(∀i,upto n0 x0 i*ceE d1=upto n1 x1 i*ceE d0)) (hY:(∀i,upto m0 y0 i*ceE d1=upto m1 y1 i*ceE d0)):aj (ph (aea x0 y0 x1 y1 n0 m0 n1 m1 d0 d1 k)) prog ⟨62,[.parts (.agg [.s,.s,.b,.s]) [(0,1,0),(1,1,1),(2,2,2)],.parts (.agg [.s,.s,.b,.s]) [(0,1,3),(1,1,4),(2,2,5)]],oT,false⟩:=adL aec oT aeb func62 (by kernel_rfl) (lB (JD ad rfl) (lB (JD ad rfl) (lB (rk (z:=x0) (n:=n0) (y:=(ceE d1)) (Rw.To 2 (If x0 k) n0 (λ_ _ _ _ h=>h)) nI rfl rfl) (lB (rk (z:=x1) (n:=n1) (y:=(ceE d0)) (Rw.To 2 (If x1 k) n1 (λ_ _ _ _ h=>h)) nI rfl rfl) (lB (Hj (z:=(ae (scL x0 n0 (ceE d1)))) (n:=(scL x0 n0 (ceE d1)).length) (y:=(ae (scL x1 n1 (ceE d0)))) (m:=(scL x1 n1 (ceE d0)).length) (Rw.To 2 (λι w v=>ak w v ((ae (scL x0 n0 (ceE d1))) ι) (k+k)) ((scL x0 n0 (ceE d1)).length) (λ_ _ _ _ h=>ak.i h)) (Rw.To 2 (λι w v=>ak w v ((ae (scL x1 n1 (ceE d0))) ι) (k+k)) ((scL x1 n1 (ceE d0)).length) (λ_ _ _ _ h=>ak.i h)) (by rw [uu];exact Nat.le_trans (bg _ _) (by omega)) (by rw [uu];exact Nat.le_trans (bg _ _) (by omega)) (JE.2 hX)) (lB (rk (z:=y0) (n:=m0) (y:=(ceE d1)) (Rw.To 2 (If y0 k) m0 (λ_ _ _ _ h=>h)) nI rfl rfl) (lB (rk (z:=y1) (n:=m1) (y:=(ceE d0)) (Rw.To 2 (If y1 k) m1 (λ_ _ _ _ h=>h)) nI rfl rfl) (lB (Hj (z:=(ae (scL y0 m0 (ceE d1)))) (n:=(scL y0 m0 (ceE d1)).length) (y:=(ae (scL y1 m1 (ceE d0)))) (m:=(scL y1 m1 (ceE d0)).length) (Rw.To 2 (λι w v=>ak w v ((ae (scL y0 m0 (ceE d1))) ι) (k+k)) ((scL y0 m0 (ceE d1)).length) (λ_ _ _ _ h=>ak.i h)) (Rw.To 2 (λι w v=>ak w v ((ae (scL y1 m1 (ceE d0))) ι) (k+k)) ((scL y1 m1 (ceE d0)).length) (λ_ _ _ _ h=>ak.i h)) (by rw [uu];exact Nat.le_trans (bg _ _) (by omega)) (by rw [uu];exact Nat.le_trans (bg _ _) (by omega)) (JE.2 hY)) au))))))))
  (aP [.parts (.agg [.s,.s,.b,.s]) [(0,1,0),(1,1,1),(2,2,2)],.parts (.agg [.s,.s,.b,.s]) [(0,1,3),(1,1,4),(2,2,5)]] ⟨trivial,trivial,trivial⟩) aV
section
variable {p0 q0 r0 p1 q1 r1:Nat}
theorem aee (hp0:Im Φ p0 (Rw 2 (If x0 k) n0)) (hq0:Im Φ q0 (Rw 2 (If y0 k) m0)) (hr0:Im Φ r0 (Iw d0 k)) (hp1:Im Φ p1 (Rw 2 (If x1 k) n1)) (hq1:Im Φ q1 (Rw 2 (If y1 k) m1)) (hr1:Im Φ r1 (Iw d1 k)) (h:((∀i,upto n0 x0 i*ceE d1=upto n1 x1 i*ceE d0)∧(∀i,upto m0 y0 i*ceE d1=upto m1 y1 i*ceE d0))) (hk:k<=1000:=by omega) (hk1:1<=k:=by omega) (hn0:n0<=1000:=by omega) (hm0:m0<=1000:=by omega) (hn1:n1<=1000:=by omega) (hm1:m1<=1000:=by omega):aj Φ prog ⟨62,[.parts cS [(0,1,p0),(1,1,q0),(2,2,r0)],.parts cS [(0,1,p1),(1,1,q1),(2,2,r1)]],oT,false⟩:=
 aU (aed hk hk1 hn0 hm0 hn1 hm1 h.1 h.2) ⟨⟨rfl,⟨rfl,rfl,hp0⟩,⟨rfl,rfl,hq0⟩,⟨rfl,rfl,hr0⟩,trivial⟩,⟨rfl,⟨rfl,rfl,hp1⟩,⟨rfl,rfl,hq1⟩,⟨rfl,rfl,hr1⟩,trivial⟩,trivial⟩ ⟨⟨rfl,trivial⟩,trivial⟩
end
def aef (x0 y0 x1 y1:Nat->Int) (n0 m0 n1 m1:Nat) (d0 d1:Int) (k:Nat):List WP:=[Rw 2 (If x0 k) n0,Rw 2 (If y0 k) m0,Iw d0 k,Rw 2 (If x1 k) n1,Rw 2 (If y1 k) m1,Iw d1 k]
def aeg:List Step:=[cB 62 [.parts cS [(0,1,0),(1,1,1),(2,2,2)],.parts cS [(0,1,3),(1,1,4),(2,2,5)]] oT]
def aeh:List Out:=[⟨.agg [.s,.s,.b,.s],[(0,1,0),(1,1,1),(2,2,2)]⟩,⟨.agg [.s,.s,.b,.s],[(0,1,3),(1,1,4),(2,2,5)]⟩]
theorem aei  (hk:k<=1000) (hk1:1<=k) (hn0:n0<=1000) (hm0:m0<=1000) (hn1:n1<=1000) (hm1:m1<=1000) (h:((∀i,upto n0 x0 i*ceE d1=upto n1 x1 i*ceE d0)∧(∀i,upto m0 y0 i*ceE d1=upto m1 y1 i*ceE d0))):aj (ph (aef x0 y0 x1 y1 n0 m0 n1 m1 d0 d1 k)) prog ⟨29,[.parts (.agg [.s,.s,.b,.s]) [(0,1,0),(1,1,1),(2,2,2)],.parts (.agg [.s,.s,.b,.s]) [(0,1,3),(1,1,4),(2,2,5)]],oT,false⟩:=adL aeh oT aeg func29 (by kernel_rfl) (lB (aee ad ad ad ad ad ad h) au)
  (aP [.parts (.agg [.s,.s,.b,.s]) [(0,1,0),(1,1,1),(2,2,2)],.parts (.agg [.s,.s,.b,.s]) [(0,1,3),(1,1,4),(2,2,5)]] ⟨trivial,trivial,trivial⟩) aV
section
variable {p0 q0 r0 p1 q1 r1:Nat}
theorem Fu (hp0:Im Φ p0 (Rw 2 (If x0 k) n0)) (hq0:Im Φ q0 (Rw 2 (If y0 k) m0)) (hr0:Im Φ r0 (Iw d0 k)) (hp1:Im Φ p1 (Rw 2 (If x1 k) n1)) (hq1:Im Φ q1 (Rw 2 (If y1 k) m1)) (hr1:Im Φ r1 (Iw d1 k)) (hn0:n0<=1000) (hm0:m0<=1000) (hn1:n1<=1000) (hm1:m1<=1000) (h:((∀i,upto n0 x0 i*ceE d1=upto n1 x1 i*ceE d0)∧(∀i,upto m0 y0 i*ceE d1=upto m1 y1 i*ceE d0))) (hk:k<=1000:=by omega) (hk1:1<=k:=by omega):aj Φ prog ⟨29,[.parts cS [(0,1,p0),(1,1,q0),(2,2,r0)],.parts cS [(0,1,p1),(1,1,q1),(2,2,r1)]],oT,false⟩:=
 aU (aei hk hk1 hn0 hm0 hn1 hm1 h) ⟨⟨rfl,⟨rfl,rfl,hp0⟩,⟨rfl,rfl,hq0⟩,⟨rfl,rfl,hr0⟩,trivial⟩,⟨rfl,⟨rfl,rfl,hp1⟩,⟨rfl,rfl,hq1⟩,⟨rfl,rfl,hr1⟩,trivial⟩,trivial⟩ ⟨⟨rfl,trivial⟩,trivial⟩
end
section
variable {A B:List Int}{f:Int}{i:Nat}
end
section
variable {p0 q0 p1 q1:Nat}{A0 B0 A1 B1:List Int}{e0 e1:Int}
structure aiA (A B:List Int) (e:Int) (k:Nat):Prop where
 he:e≠0
 nA:ct A
 nB:ct B
 lA:A.length<=1000
 lB:B.length<=1000
 bA:∀i,Bd (ae A i).natAbs k
 bB:∀i,Bd (ae B i).natAbs k
 be:Bd e.natAbs k
end
end Go.Proofs.YtlmanbjkkjfjgaaGreat.Sym
