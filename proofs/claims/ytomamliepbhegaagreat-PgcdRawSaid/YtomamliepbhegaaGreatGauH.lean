/- What Primitive leaves is -/
import Derived.Test.YtomamliepbhegaaGreatGauC
import Derived.Test.YtomamliepbhegaaGreatDivC
namespace Go.Proofs.YtomamliepbhegaaGreat.Sym
variable {G a b f:Nat->Int}{K d k m n:Nat}{l:Nat->Nat}{c0 lead:Int}{x:Nat->Nat->Int}{s t:(Nat->Int)×Nat}
section
variable {z:Nat->Int}
theorem sj (i:Nat):upto n z i=ba z n*ae (dvL z n (ba z n)) i:=by
 have hl:=aL z n
 rw [dvL,eG]
 by_cases h1:i<tl z n
 ·rw [if_pos h1,gx (by omega)]
  exact (Int.mul_ediv_cancel' (nX i (by omega))).symm
 ·rw [if_neg h1,Int.mul_zero,PJ]
theorem vR (h:0<tl z n):kJ (ae (dvL z n (ba z n))):=fun p hp=>Classical.byContradiction fun hno=>by
 have h0:=uK h
 have hall:∀i,(p:Int)∣ae (dvL z n (ba z n)) i:=fun i=>Classical.byContradiction fun e=>hno ⟨i,e⟩
 have hg:∀m,m<=n->p*bi z n∣bi z m:=by
  intro m
  induction m with
  | zero=>intro _;exact Nat.dvd_zero _
  | succ m ih=>
   intro hm
   refine Nat.dvd_gcd (ih (by omega)) ?_
   have h1:=sj (z:=z) (n:=n) m
   rw [gx (by omega)] at h1
   obtain ⟨y,hy⟩:=hall m
   rw [h1,hy,Int.natAbs_mul,Int.natAbs_mul,Int.natAbs_natCast]
   have h2:(ba z n).natAbs=bi z n:=by
    unfold ba
    split <;> simp
   rw [h2]
   exact ⟨y.natAbs,by rw [Nat.mul_left_comm,Nat.mul_assoc]⟩
 have h1:=Nat.le_of_dvd (by omega) (hg n (Nat.le_refl _))
 have h2:=Nat.mul_le_mul_right (bi z n) hp.1
 omega
theorem sk (h:0<tl z n:=by omega):0<ae (dvL z n (ba z n)) (tl z n-1)∧∀i,tl z n-1<i->ae (dvL z n (ba z n)) i=0:=by
 have hl:=aL z n
 refine ⟨?_,fun i hi=>by rw [dvL,eG,if_neg (by omega)]⟩
 have h1:=sj (z:=z) (n:=n) (tl z n-1)
 rw [gx (by omega)] at h1
 have h2:=uK h
 have h3:=fb z n h
 have h4:dc z n=z (tl z n-1):=if_neg (by omega)
 generalize ae (dvL z n (ba z n)) (tl z n-1)=y at *
 refine Classical.byContradiction fun hy=>?_
 unfold ba at h1
 split at h1
 ·have:=Int.mul_nonneg (show 0<=(bi z n:Int) by omega) (show 0<=-y by omega)
  rw [Int.mul_neg] at this
  rw [Int.neg_mul] at h1
  omega
 ·have:=Int.mul_nonneg (show 0<=(bi z n:Int) by omega) (show 0<=-y by omega)
  rw [Int.mul_neg] at this
  omega
end
theorem PK {l:Nat} (H:IsG a b G d) (hl:d+1<=l) (hf:f (l-1)≠0) (ha:el (ae (dvL f l (ba f l))) a) (hb:el (ae (dvL f l (ba f l))) b):l=d+1∧∀i,ae (dvL f l (ba f l)) i=G i:=by
 have ht:tl f l=l:=by
  obtain ⟨k,rfl⟩:∃k,l=k+1:=⟨l-1,by omega⟩
  unfold tl
  exact if_neg hf
 have h1:=sk (z:=f) (n:=l)
 rw [ht] at h1
 have h2:=H.one ha hb (vR (by omega)) h1.1 h1.2 (by omega)
 exact ⟨by omega,h2.2⟩
theorem PL  (H:IsG a b G d) (hc:0<c0) (hf:∀i,i<d+1->f i=c0*G i):∀i,ae (dvL f (d+1) (ba f (d+1))) i=G i:=by
 have hp:=H.pos
 have h0:bi f (d+1)=c0.toNat:=by
  have e:bi f (d+1)=bi (fun i=>((c0.toNat:Nat):Int)*G i) (d+1):=uI fun i hi=>by rw [hf i hi,Int.toNat_of_nonneg (by omega)]
  rw [e,CF,PF H.kK hp H.out,Nat.mul_one]
 have hd:0<f d:=by rw [hf d (by omega)];exact Int.mul_pos hc hp
 have ht:tl f (d+1)=d+1:=by
  unfold tl
  exact if_neg (by omega)
 have hpc:ba f (d+1)=c0:=by
  unfold ba
  rw [if_neg (by rw [dc,if_neg (by omega),ht,Nat.add_sub_cancel];omega),h0,Int.toNat_of_nonneg (by omega)]
 intro i
 rcases Nat.lt_or_ge i (d+1) with h | h
 ·have h1:=sj (z:=f) (n:=d+1) i
  rw [gx h,hf i h,hpc] at h1
  rw [hpc]
  exact (Int.eq_of_mul_eq_mul_left (by omega) h1).symm
 ·rw [dvL,eG,if_neg (by omega),H.out i (by omega)]
theorem CG {i:Nat} (hk:k<256) (h1:lead % prK k≠0) (h2:¬(0<(aw lead l x k).1∧(aw lead l x k).1<l k)) (h3:0<l k:=by omega) (hi:i<l k:=by omega):(aw lead l x (k+1)).1=l k∧(prK k:Int)∣(aw lead l x (k+1)).2.2 i-x k i:=by
 have hp:=fY (h:=hk)
 have hbig:=ie hk
 by_cases h4:l k=(aw lead l x k).1
 ·rw [aw,if_neg h1,if_neg h2,if_pos h4]
  have h5:=(vQ (lead:=lead) (l:=l) (x:=x) (k:=k) (by omega) (by omega)).1 k (Nat.le_refl _) hk
  refine ⟨rfl,?_⟩
  dsimp only
  rw [if_pos hi]
  exact vJ hp fun h=>h5 (Int.natCast_dvd_natCast.1 h)
 ·rw [aw,if_neg h1,if_neg h2,if_neg h4]
  refine ⟨rfl,?_⟩
  dsimp only
  rw [if_pos hi]
  have:=vJ (p:=prK k) (M:=1) (g:=0) (x:=x k i) hp fun h=>by
   obtain ⟨c,hc⟩:=h
   have:=Int.natAbs_mul (prK k) c
   rw [<- hc,Int.natAbs_natCast] at this
   have h6:prK k∣1:=⟨c.natAbs,this⟩
   have:=Nat.le_of_dvd (by omega) h6
   omega
  rwa [Int.zero_add,Int.one_mul] at this
def ij (a:Nat->Int) (n:Nat) (b:Nat->Int) (m:Nat):Nat->Int:=fun i=>
 if i<n then a i*((b (m-1)).natAbs:Int)-(if n-m<=i then (if b (m-1)<0 then -a (n-1) else a (n-1))*b (i-(n-m)) else 0) else 0
def bn (a:Nat->Int) (n:Nat) (b:Nat->Int) (m:Nat):Nat->(Nat->Int)×Nat
 | 0=>(a,n)
 | j+1=>(ij (bn a n b m j).1 (bn a n b m j).2 b m,tl (ij (bn a n b m j).1 (bn a n b m j).2 b m) (bn a n b m j).2)
theorem PM  (ha:∀i,n<=i->a i=0) (hb:∀i,m<=i->b i=0) (hm:0<m) (hnm:m<=n) (i:Nat) :
  ((b (m-1)).natAbs:Int)*a i=conv (fun x=>if x=n-m then (if b (m-1)<0 then -a (n-1) else a (n-1)) else 0) b i+ij a n b m i:=by
 rw [gY]
 unfold ij
 rcases Nat.lt_or_ge i n with h | h
 ·rw [if_pos h,Int.mul_comm]
  omega
 ·rw [if_pos (show n-m<=i by omega),if_neg (show ¬i<n by omega),ha i h,hb (i-(n-m)) (by omega)]
  simp
theorem PN  (hm:0<m) (hnm:m<=n):ij a n b m (n-1)=0:=by
 unfold ij
 rw [if_pos (by omega),if_pos (by omega),show n-1-(n-m)=m-1 by omega]
 split
 ·rw [show ((b (m-1)).natAbs:Int) = -b (m-1) by omega,Int.neg_mul,Int.mul_neg]
  omega
 ·rw [show ((b (m-1)).natAbs:Int)=b (m-1) by omega]
  omega
theorem PO  (h:f (n-1)=0) (hn:0<n:=by omega):tl f n<n:=by
 obtain ⟨k,rfl⟩:∃k,n=k+1:=⟨n-1,by omega⟩
 unfold tl
 rw [if_pos (by rwa [Nat.add_sub_cancel] at h)]
 have:=aL f k
 omega
theorem PP  (h:∀i,n<=i->f i=0):∀i,tl f n<=i->f i=0:=fun i hi=>by
 rcases Nat.lt_or_ge i n with h1 | h1
 ·exact gK _ _ i hi h1
 ·exact h i h1
theorem sm {a:Nat->Int}{n:Nat}{b:Nat->Int}{m:Nat} (ha:∀i,n<=i->a i=0) (hb:∀i,m<=i->b i=0) (hm:0<m) (hb1:b (m-1)≠0):∀{j:Nat},(∀k,k<j->m<=(bn a n b m k).2)->
  (∀i,(bn a n b m j).2<=i->(bn a n b m j).1 i=0)∧(bn a n b m j).2+j<=n∧∃(c:Int) (Q:Nat->Int),c≠0∧cZ Q∧∀i,c*a i=conv Q b i+(bn a n b m j).1 i
 | 0,_=>⟨ha,Nat.le_refl _,1,fun _=>0,by omega,⟨0,fun _ _=>rfl⟩,fun i=>by rw [fG fun _=>rfl];show 1*a i=0+a i;omega⟩
 | j+1,h=>by
  obtain ⟨h1,h2,c,Q,hc,hQ,h3⟩:=sm ha hb hm hb1 (j:=j) fun k hk=>h k (by omega)
  have hmj:=h j (by omega)
  have hz:∀i,(bn a n b m j).2<=i->ij (bn a n b m j).1 (bn a n b m j).2 b m i=0:=fun i hi=>if_neg (by omega)
  refine ⟨PP hz,?_,((b (m-1)).natAbs:Int)*c,fun i=>((b (m-1)).natAbs:Int)*Q i+(if i=(bn a n b m j).2-m then (if b (m-1)<0 then -(bn a n b m j).1 ((bn a n b m j).2-1) else (bn a n b m j).1 ((bn a n b m j).2-1)) else 0),Int.mul_ne_zero (by omega) hc,?_,fun i=>?_⟩
  ·have:=PO (f:=ij (bn a n b m j).1 (bn a n b m j).2 b m) (n:=(bn a n b m j).2) (PN hm hmj)
   show tl _ _+(j+1)<=n
   omega
  ·refine (hQ.mul _).add ⟨(bn a n b m j).2-m+1,fun i hi=>if_neg (by omega)⟩
  ·rw [gz,gN,Int.mul_assoc,h3,Int.mul_add,PM h1 hb hm hmj]
   show _=_+_+ij (bn a n b m j).1 (bn a n b m j).2 b m i
   omega
def mK (m:Nat) (f:Nat->Nat):Nat->Nat
 | 0=>0
 | n+1=>if f 0<m then 0 else mK m (fun j=>f (j+1)) n+1
theorem CH {m:Nat}:∀{n:Nat}{f:Nat->Nat},(∃j,j<=n∧f j<m)->mK m f n<=n∧f (mK m f n)<m∧∀k,k<mK m f n->m<=f k
 | 0,f,⟨j,h1,h2⟩=>by
  obtain rfl:j=0:=by omega
  exact ⟨Nat.le_refl _,h2,fun k hk=>absurd hk (by unfold mK;omega)⟩
 | n+1,f,⟨j,h1,h2⟩=>by
  unfold mK
  by_cases h0:f 0<m
  ·rw [if_pos h0]
   exact ⟨by omega,h0,fun k hk=>absurd hk (by omega)⟩
  ·rw [if_neg h0]
   cases j with
   | zero=>exact absurd h2 h0
   | succ j=>
    obtain ⟨h3,h4,h5⟩:=CH (m:=m) (n:=n) (f:=fun j=>f (j+1)) ⟨j,by omega,h2⟩
    refine ⟨by omega,h4,fun k hk=>?_⟩
    cases k with
    | zero=>omega
    | succ k=>exact h5 k (by omega)
def fS (a:Nat->Int) (n:Nat) (b:Nat->Int) (m:Nat):Nat:=mK m (fun j=>(bn a n b m j).2) n
def rsE (a:Nat->Int) (n:Nat) (b:Nat->Int) (m:Nat):(Nat->Int)×Nat:=bn a n b m (fS a n b m)
theorem vS  (ha:∀i,n<=i->a i=0) (hb:∀i,m<=i->b i=0) (hm:0<m) (hb1:b (m-1)≠0) :
  (fS a n b m<=n∧(rsE a n b m).2<m∧∀k,k<fS a n b m->m<=(bn a n b m k).2)∧(∀i,(rsE a n b m).2<=i->(rsE a n b m).1 i=0)∧∃(c:Int) (Q:Nat->Int),c≠0∧cZ Q∧∀i,c*a i=conv Q b i+(rsE a n b m).1 i:=by
 have hex:∃j,j<=n∧(bn a n b m j).2<m:=Classical.byContradiction fun hno=>by
  have hall:∀k,k<=n->m<=(bn a n b m k).2:=fun k hk=>Classical.byContradiction fun e=>hno ⟨k,hk,by omega⟩
  have h1:=(sm ha hb hm hb1 (j:=n) fun k hk=>hall k (by omega)).2.1
  have h2:=hall n (Nat.le_refl _)
  omega
 have h:=CH (m:=m) (f:=fun j=>(bn a n b m j).2) hex
 have h3:=sm ha hb hm hb1 (j:=fS a n b m) h.2.2
 exact ⟨h,h3.1,h3.2.2⟩
def iJ (s t:(Nat->Int)×Nat):(Nat->Int)×Nat:=(ae (dvL (rsE s.1 s.2 t.1 t.2).1 (rsE s.1 s.2 t.1 t.2).2 (ba (rsE s.1 s.2 t.1 t.2).1 (rsE s.1 s.2 t.1 t.2).2)),tl (rsE s.1 s.2 t.1 t.2).1 (rsE s.1 s.2 t.1 t.2).2)
def gcS (s t:(Nat->Int)×Nat):Nat->((Nat->Int)×Nat)×((Nat->Int)×Nat)
 | 0=>(s,t)
 | j+1=>((gcS s t j).2,iJ (gcS s t j).1 (gcS s t j).2)
def Vz (s:(Nat->Int)×Nat):Prop:=(∀i,s.2<=i->s.1 i=0)∧(0<s.2->0<s.1 (s.2-1)∧kJ s.1)
theorem sn  (hs:Vz s) (ht:Vz t) (h0:0<t.2):Vz (iJ s t)∧(iJ s t).2<t.2∧∃(c r:Int) (Q:Nat->Int),c≠0∧(0<(iJ s t).2->r≠0)∧cZ Q∧∀i,c*s.1 i=conv Q t.1 i+r*(iJ s t).1 i:=by
 obtain ⟨⟨h1,h2,h3⟩,h4,c,Q,hc,hQ,h5⟩:=vS hs.1 ht.1 h0 (by have:=(ht.2 h0).1;omega)
 have hl:=aL (rsE s.1 s.2 t.1 t.2).1 (rsE s.1 s.2 t.1 t.2).2
 refine ⟨⟨fun i hi=>?_,fun h=>⟨(sk (h:=h)).1,vR h⟩⟩,?_,c,ba (rsE s.1 s.2 t.1 t.2).1 (rsE s.1 s.2 t.1 t.2).2,Q,hc,fun h=>rQ h,hQ,fun i=>?_⟩
 ·have hi':tl (rsE s.1 s.2 t.1 t.2).1 (rsE s.1 s.2 t.1 t.2).2<=i:=hi
  show ae (dvL _ _ _) i=0
  rw [dvL,eG,if_neg (by omega)]
 ·show tl _ _<_
  omega
 ·rw [h5]
  have:=sj (z:=(rsE s.1 s.2 t.1 t.2).1) (n:=(rsE s.1 s.2 t.1 t.2).2) i
  show _=_+ba _ _*ae (dvL _ _ _) i
  rw [<- this]
  rcases Nat.lt_or_ge i (rsE s.1 s.2 t.1 t.2).2 with h | h
  ·rw [gx h]
  ·rw [h4 i h,PQ h]
theorem mL {s t:(Nat->Int)×Nat} (hs:Vz s) (ht:Vz t):∀{j:Nat},(∀k,k<j->0<(gcS s t k).2.2)->Vz (gcS s t j).1∧Vz (gcS s t j).2∧(gcS s t j).2.2+j<=t.2
 | 0,_=>⟨hs,ht,Nat.le_refl _⟩
 | j+1,h=>by
  obtain ⟨h1,h2,h3⟩:=mL hs ht (j:=j) fun k hk=>h k (by omega)
  have h4:=sn h1 h2 (h j (by omega))
  refine ⟨h2,h4.1,?_⟩
  show (iJ _ _).2+(j+1)<=_
  omega
def cD (s t:(Nat->Int)×Nat):Nat:=mJ (fun j=>(gcS s t j).2.2) t.2
theorem kN  (hs:Vz s) (ht:Vz t):cD s t<=t.2∧(gcS s t (cD s t)).2.2=0∧∀k,k<cD s t->0<(gcS s t k).2.2:=by
 obtain ⟨j,h1,h2⟩:=least (f:=fun j=>if (gcS s t j).2.2=0 then 1 else 0) (Classical.byContradiction fun hno=>by
  have hall:∀k,0<(gcS s t k).2.2:=fun k=>Nat.pos_of_ne_zero fun e=>hno ⟨k,by rw [if_pos e];omega⟩
  have:=(mL hs ht (j:=t.2+1) fun k _=>hall k).2.2
  omega)
 have h3:(gcS s t j).2.2=0:=Classical.byContradiction fun e=>h1 (if_neg e)
 have h4:∀k,k<j->0<(gcS s t k).2.2:=fun k hk=>Nat.pos_of_ne_zero fun e=>by
  have:=h2 k hk
  rw [if_pos e] at this
  omega
 have h5:=(mL hs ht h4).2.2
 have h6:cD s t=j:=vO (by omega) h3 h4
 rw [h6]
 exact ⟨by omega,h3,h4⟩
theorem sq  (hs:Vz s) (ht:Vz t) (h0:0<t.2):0<(gcS s t (cD s t)).1.2∧IsG s.1 t.1 (gcS s t (cD s t)).1.1 ((gcS s t (cD s t)).1.2-1):=by
 obtain ⟨h1,h2,h3⟩:=kN hs ht
 obtain ⟨J,hJ⟩:∃J,cD s t=J+1:=⟨cD s t-1,by
  rcases Nat.eq_zero_or_pos (cD s t) with e | e
  ·rw [e] at h2
   have:t.2=0:=h2
   omega
  ·omega⟩
 rw [hJ] at h2 h3 ⊢
 have hJl:=h3 J (by omega)
 refine ⟨hJl,?_⟩
 have key:∀u,u<=J->IsG (gcS s t (J-u)).1.1 (gcS s t (J-u)).2.1 (gcS s t J).2.1 ((gcS s t J).2.2-1):=by
  intro u
  induction u with
  | zero=>
   intro _
   obtain ⟨a1,a2,-⟩:=mL hs ht (j:=J) fun k hk=>h3 k (by omega)
   obtain ⟨b1,b2,c,r,Q,hc,-,hQ,h5⟩:=sn a1 a2 hJl
   refine IsG.last (a2.2 hJl).2 (a2.2 hJl).1 (fun i hi=>a2.1 i (by omega)) hc hQ fun i=>?_
   rw [Nat.sub_zero,h5,b1.1 i (by have:(iJ (gcS s t J).1 (gcS s t J).2).2=0:=h2;omega)]
   omega
  | succ u ih=>
   intro hu
   have h4:=ih (by omega)
   obtain ⟨a1,a2,-⟩:=mL hs ht (j:=J-(u+1)) fun k hk=>h3 k (by omega)
   obtain ⟨b1,b2,c,r,Q,hc,hr,hQ,h5⟩:=sn a1 a2 (h3 _ (by omega))
   rw [show J-u=J-(u+1)+1 by omega] at h4
   refine IsG.step h4 hc (hr ?_) hQ h5
   have:=h3 (J-(u+1)+1) (by omega)
   exact this
 have:=key J (Nat.le_refl _)
 rw [Nat.sub_self] at this
 exact this
theorem su {r:(Nat->Int)×Nat}{q:Nat->Int} (H:IsG a b G d) (hr:Vz r) (hr0:0<r.2) (hq:cZ q) (he:∀i,r.1 i=conv q G i):d<=r.2-1∧G d∣r.1 (r.2-1):=by
 have hGp:=H.pos
 have hrp:=(hr.2 hr0).1
 obtain ⟨n,hn⟩:=hq
 have hne:∃i,q i≠0:=Classical.byContradiction fun hno=>by
  have:=he (r.2-1)
  rw [fG fun i=>Classical.byContradiction fun e=>hno ⟨i,e⟩] at this
  omega
 obtain ⟨k,h1,h2⟩:=topmost (P:=fun i=>q i≠0) (n:=n) hne fun i hi hne=>hne (hn i hi)
 have h3:∀j,k<j->q j=0:=fun j hj=>Classical.byContradiction fun e=>h2 j hj e
 have h4:r.1 (k+d)≠0:=by
  rw [he,gM h3 H.out]
  exact Int.mul_ne_zero h1 (by omega)
 have h5:k+d<r.2:=Classical.byContradiction fun hc=>h4 (hr.1 _ (by omega))
 have h6:r.2-1<=k+d:=Classical.byContradiction fun hc=>by
  have:=he (r.2-1)
  rw [je (a:=k+1) (b:=d+1) (fun i hi=>h3 i (by omega)) (fun i hi=>H.out i (by omega))] at this
  omega
 refine ⟨by omega,?_⟩
 rw [show r.2-1=k+d by omega,he,gM h3 H.out]
 exact Int.dvd_mul_left _ _
theorem CI {d:Nat} (H:IsG s.1 t.1 G d) (hs:Vz s) (ht:Vz t) (hs0:0<s.2) (ht0:0<t.2) (hA:∀i,(s.1 i).natAbs<=K) (hB:∀i,(t.1 i).natAbs<=K) (i:Nat):(G i).natAbs<=K+(2*(s.2+t.2)*K) ^ (s.2+t.2):=by
 obtain ⟨a',ha1,ha2⟩:=H.iH
 obtain ⟨b',hb1,hb2⟩:=H.ji
 have d1:=(su H hs hs0 ha1 ha2).1
 have d2:=(su H ht ht0 hb1 hb2).1
 have hsp:=(hs.2 hs0).1
 have hK1:1<=K:=by have:=hA (s.2-1);omega
 have hW:(2*((t.2-1-d)+(s.2-1-d))*K) ^ ((t.2-1-d)+(s.2-1-d))<=(2*(s.2+t.2)*K) ^ (s.2+t.2):=by
  refine Nat.le_trans (Nat.pow_le_pow_left (Nat.mul_le_mul_right K (Nat.mul_le_mul_left 2 (show _<=s.2+t.2 by omega))) _) (Nat.pow_le_pow_right ?_ (by omega))
  exact Nat.mul_pos (by omega) hK1
 have:=PD (m:=s.2-1-d) (n:=t.2-1-d) (K:=K) H (by rw [show d+(s.2-1-d)=s.2-1 by omega];omega) (fun i hi=>hs.1 i (by omega)) (fun i hi=>ht.1 i (by omega)) hA hB i
 omega
theorem PR {u v:Nat} (hs:Vz s) (ht:Vz t) (hs0:0<s.2) (ht0:0<t.2) (hG:(gcS s t (cD s t)).1.1=G) (hd:(gcS s t (cD s t)).1.2=d+1)
  (hA:∀i,(s.1 i).natAbs<=K) (hB:∀i,(t.1 i).natAbs<=K) (hKu:K+(2*(s.2+t.2)*K) ^ (s.2+t.2)<2147000000 ^ (u+1)) (hKv:2*(K*(K+(2*(s.2+t.2)*K) ^ (s.2+t.2)))+1<=2147000000 ^ v) (hv:0<v) (huv:v+u+v<256)
  (l:Nat->Nat) (g:Nat->Nat->Int) (hl:∀k,l k=ig (prK k) (img (prK k) s.1) (tl (img (prK k) s.1) s.2) (img (prK k) t.1) (tl (img (prK k) t.1) t.2)) (hg:∀k,g k=imG (prK k) (img (prK k) s.1) (tl (img (prK k) s.1) s.2) (img (prK k) t.1) (tl (img (prK k) t.1) t.2))
  (lead:Int) (hlead:lead=((Nat.gcd (s.1 (s.2-1)).natAbs (t.1 (t.2-1)).natAbs:Nat):Int)) :
  IsG s.1 t.1 G d∧∃c0:Int,0<c0∧lead=c0*G d∧(∀k,k<256->lead % prK k≠0->d+1<=l k∧Vd (prK k) (g k) (l k)∧g k (l k-1)=1) ∧
  ∃k,k<256∧lead % prK k≠0∧l k=d+1∧(aw lead l (fun k=>scl (prK k) (lead % prK k) (g k)) k).1=d+1∧(∀i,i<d+1->(aw lead l (fun k=>scl (prK k) (lead % prK k) (g k)) k).2.2 i=c0*G i) ∧
   ∀i,i<d+1->mvn (prK k) (aw lead l (fun k=>scl (prK k) (lead % prK k) (g k)) k).2.1 ((aw lead l (fun k=>scl (prK k) (lead % prK k) (g k)) k).2.2 i) (scl (prK k) (lead % prK k) (g k) i)=0:=by
 have H:=(sq hs ht ht0).2
 rw [hG,hd,Nat.add_sub_cancel] at H
 have hsp:=(hs.2 hs0).1
 have htp:=(ht.2 ht0).1
 have hGp:=H.pos
 obtain ⟨a',ha1,ha2⟩:=H.iH
 obtain ⟨b',hb1,hb2⟩:=H.ji
 obtain ⟨d1,e1⟩:=su H hs hs0 ha1 ha2
 obtain ⟨d2,e2⟩:=su H ht ht0 hb1 hb2
 have hlp:0<lead:=by
  rw [hlead]
  have:=Nat.gcd_pos_of_pos_left (t.1 (t.2-1)).natAbs (show 0<(s.1 (s.2-1)).natAbs by omega)
  omega
 have hdl:G d∣lead:=by
  rw [hlead]
  refine Int.natAbs_dvd.1 (Int.natCast_dvd_natCast.2 (Nat.dvd_gcd (Int.natAbs_dvd_natAbs.2 e1) (Int.natAbs_dvd_natAbs.2 e2)))
 obtain ⟨c0,hc0⟩:=hdl
 have hcp:0<c0:=Classical.byContradiction fun hc=>by
  have:=Int.mul_nonneg (show 0<=G d by omega) (show 0<=-c0 by omega)
  rw [Int.mul_neg] at this
  omega
 have hlK:lead.natAbs<=K:=by
  rw [hlead,Int.natAbs_natCast]
  exact Nat.le_trans (Nat.le_of_dvd (by omega) (Nat.gcd_dvd_left _ _)) (hA _)
 have hcK:c0.natAbs<=K:=by
  refine Nat.le_trans (Nat.le_of_dvd (by omega) (Int.natAbs_dvd_natAbs.2 ⟨G d,?_⟩)) hlK
  rw [hc0,Int.mul_comm]
 have ham:s.1 (d+(s.2-1-d))≠0:=by rw [show d+(s.2-1-d)=s.2-1 by omega];omega
 have hK1:1<=K:=by have:=hA (s.2-1);omega
 have hW:(2*((t.2-1-d)+(s.2-1-d))*K) ^ ((t.2-1-d)+(s.2-1-d))<=(2*(s.2+t.2)*K) ^ (s.2+t.2):=by
  refine Nat.le_trans (Nat.pow_le_pow_left (Nat.mul_le_mul_right K (Nat.mul_le_mul_left 2 (show _<=s.2+t.2 by omega))) _) (Nat.pow_le_pow_right ?_ (by omega))
  exact Nat.mul_pos (by omega) hK1
 have hGb:=CI H hs ht hs0 ht0 hA hB
 have hT:∀i,(c0*G i).natAbs<=K*(K+(2*(s.2+t.2)*K) ^ (s.2+t.2)):=fun i=>by
  rw [Int.natAbs_mul]
  exact Nat.mul_le_mul hcK (hGb i)
 have hl2:lead.natAbs<=K*(K+(2*(s.2+t.2)*K) ^ (s.2+t.2)):=Nat.le_trans hlK (Nat.le_mul_of_pos_right _ (by omega))
 refine ⟨H,c0,hcp,by rw [hc0,Int.mul_comm],?_⟩
 refine PI (K:=K) (K2:=K*(K+(2*(s.2+t.2)*K) ^ (s.2+t.2))) (s:=u) (t:=v) (m:=s.2-1-d) (n:=t.2-1-d) (c0:=c0) H ?_ (fun i hi=>hs.1 i (by omega)) (fun i hi=>ht.1 i (by omega)) hA hB (by rw [hc0,Int.mul_comm]) (fun p hp h1 h2=>?_) hl2 hT hKv huv hv l g (fun k=>?_) (fun k=>?_)
 ·rw [show d+(s.2-1-d)=s.2-1 by omega]
  omega
 ·rw [show d+(s.2-1-d)=s.2-1 by omega] at h1
  rw [show d+(t.2-1-d)=t.2-1 by omega] at h2
  rw [hlead]
  exact Int.natCast_dvd_natCast.2 (Nat.dvd_gcd (Int.ofNat_dvd_left.1 h1) (Int.ofNat_dvd_left.1 h2))
 ·rw [hl,show d+(s.2-1-d)+1=s.2 by omega,show d+(t.2-1-d)+1=t.2 by omega]
 ·rw [hg,show d+(s.2-1-d)+1=s.2 by omega,show d+(t.2-1-d)+1=t.2 by omega]
def gsM (lead:Int) (l:Nat->Nat) (x:Nat->Nat->Int) (k:Nat):Nat:=if l k=(aw lead l x k).1 then (aw lead l x k).2.1 else 1
def gf (lead:Int) (l:Nat->Nat) (x:Nat->Nat->Int) (k:Nat):Nat->Int:=if l k=(aw lead l x k).1 then (aw lead l x k).2.2 else fun _=>0
def dF (lead:Int) (l:Nat->Nat) (x:Nat->Nat->Int) (k:Nat):Prop:=0<(aw lead l x k).1∧(aw lead l x k).1<l k
def jJ (lead:Int) (l:Nat->Nat) (x:Nat->Nat->Int) (k:Nat):Prop:=∀i,i<l k->mvn (prK k) (gsM lead l x k) (gf lead l x k i) (x k i)=0
def bc (lead:Int) (l:Nat->Nat) (x:Nat->Nat->Int) (k:Nat):List Int:=dvL (aw lead l x (k+1)).2.2 (l k) (ba (aw lead l x (k+1)).2.2 (l k))
theorem vT  (h1:lead % prK k≠0) (h2:¬dF lead l x k):aw lead l x (k+1)=(l k,gsM lead l x k*prK k,fun i=>if i<l k then gf lead l x k i+gsM lead l x k*bM (prK k) (mvn (prK k) (gsM lead l x k) (gf lead l x k i) (x k i)) else 0):=by
 have h2':¬(0<(aw lead l x k).1∧(aw lead l x k).1<l k):=h2
 rw [aw,if_neg h1,if_neg h2',gsM,gf]
 split
 ·rfl
 ·rw [Nat.one_mul]
  simp only [show ((1:Nat):Int)=1 from rfl,Int.one_mul,Int.zero_add]
def jK (a b:Nat->Int) (lead:Int) (l:Nat->Nat) (x:Nat->Nat->Int) (k:Nat):Prop:=
 lead % prK k≠0∧(l k=1∨(¬dF lead l x k∧jJ lead l x k∧el (ae (bc lead l x k)) a∧el (ae (bc lead l x k)) b))
theorem vU  (h:kJ G) (h0:0<G 0) (hout:∀i,0<i->G i=0) (i:Nat):G i=if i=0 then 1 else 0:=by
 by_cases hi:i=0
 ·rw [if_pos hi,hi]
  refine Classical.byContradiction fun hne=>?_
  obtain ⟨p,hp,hd⟩:=vK (n:=(G 0).natAbs)
  obtain ⟨j,hj⟩:=h p hp
  rcases Nat.eq_zero_or_pos j with e | e
  ·exact hj (by rw [e];exact Int.ofNat_dvd_left.2 hd)
  ·exact hj (by rw [hout j e];exact Int.dvd_zero _)
 ·rw [if_neg hi,hout i (by omega)]
theorem PS {g:Nat->Nat->Int} (H:IsG a b G d) (hl:d+1<=l k) (hg1:g k (l k-1)=1)
  (hE:jK a b lead l (fun k=>scl (prK k) (lead % prK k) (g k)) k) (hk:k<256:=by omega):(l k=1->∀i,G i=if i=0 then 1 else 0)∧(l k≠1->l k=d+1∧∀i,ae (bc lead l (fun k=>scl (prK k) (lead % prK k) (g k)) k) i=G i):=by
 obtain ⟨h1,h2⟩:=hE
 refine ⟨fun e=>?_,fun e=>?_⟩
 ·obtain rfl:d=0:=by omega
  exact vU H.kK H.pos H.out
 ·obtain ⟨h3,h4,h5,h6⟩:=h2.resolve_left e
  refine PK H hl (fun h0=>?_) h5 h6
  have h7:=(CG (lead:=lead) (l:=l) (x:=fun k=>scl (prK k) (lead % prK k) (g k)) (k:=k) (i:=l k-1) hk h1 h3).2
  have h8:scl (prK k) (lead % prK k) (g k) (l k-1)=lead % prK k:=by
   unfold scl
   rw [hg1,Int.one_mul,Int.emod_emod_of_dvd _ (Int.dvd_refl _)]
  rw [h0,h8,Int.zero_sub,Int.dvd_neg] at h7
  refine h1 ?_
  rw [<- Int.emod_emod_of_dvd lead (Int.dvd_refl ((prK k:Nat):Int))]
  exact Int.emod_eq_zero_of_dvd h7
theorem PT  (H:IsG a b G d) (hc:0<c0) (h1:lead % prK k≠0) (h2:l k=d+1) (h3:(aw lead l x k).1=d+1) (h4:∀i,i<d+1->(aw lead l x k).2.2 i=c0*G i)
  (h5:∀i,i<d+1->mvn (prK k) (aw lead l x k).2.1 ((aw lead l x k).2.2 i) (x k i)=0):∃j,j<=k∧jK a b lead l x j∧∀i,i<j->¬jK a b lead l x i:=by
 have hM:gsM lead l x k=(aw lead l x k).2.1:=if_pos (by omega)
 have hF:gf lead l x k=(aw lead l x k).2.2:=if_pos (by omega)
 have hP:¬dF lead l x k:=fun h=>by
  have:=h.2
  omega
 have hc0:bM (prK k) 0=0:=by
  unfold bM
  rw [if_neg (by omega)]
 have hn:∀i,i<d+1->(aw lead l x (k+1)).2.2 i=c0*G i:=fun i hi=>by
  rw [vT h1 hP]
  dsimp only
  rw [if_pos (by omega),hM,hF,h5 i hi,hc0,Int.mul_zero,Int.add_zero,h4 i hi]
 have hH:∀i,ae (bc lead l x k) i=G i:=by
  unfold bc
  rw [h2]
  exact PL H hc hn
 have hend:jK a b lead l x k:=⟨h1,.inr ⟨hP,fun i hi=>by rw [hM,hF];exact h5 i (by omega),by rw [show ae (bc lead l x k)=G from funext hH];exact H.iH,by rw [show ae (bc lead l x k)=G from funext hH];exact H.ji⟩⟩
 have:∀n,n<=k->(∃j,j<=k∧jK a b lead l x j∧∀i,i<j->¬jK a b lead l x i)∨∀i,i<n->¬jK a b lead l x i:=by
  intro n
  induction n with
  | zero=>exact fun _=>.inr fun i hi=>absurd hi (by omega)
  | succ n ih=>
   intro hn
   rcases ih (by omega) with h | h
   ·exact .inl h
   ·by_cases hx:jK a b lead l x n
    ·exact .inl ⟨n,by omega,hx,h⟩
    ·refine .inr fun i hi=>?_
     rcases Nat.lt_or_ge i n with h6 | h6
     ·exact h i h6
     ·rw [show i=n by omega];exact hx
 rcases this k (Nat.le_refl _) with h | h
 ·exact h
 ·exact ⟨k,Nat.le_refl _,hend,h⟩
def cmn (s t:(Nat->Int)×Nat):(Nat->Int)×Nat:=if s.2=0 then t else if t.2=0 then s else if s.2=1∨t.2=1 then (fun i=>if i=0 then 1 else 0,1) else (gcS s t (cD s t)).1
def bL (s t:(Nat->Int)×Nat):(Nat->Int)×Nat:=(gcS s t (cD s t)).1
theorem vV  (hs:Vz s) (ht:Vz t) (h:t.2=0):bL s t=s:=by
 have h1:=(kN hs ht).1
 rw [bL,show cD s t=0 by omega]
 rfl
theorem CJ  (hs:Vz s) (ht:Vz t) (h:s.2=0) (h0:0<t.2):bL s t=t:=by
 have h1:iJ s t=(ae (dvL s.1 0 (ba s.1 0)),0):=by
  have e:fS s.1 s.2 t.1 t.2=0:=by rw [fS,h];rfl
  rw [iJ,rsE,e,bn,h]
  rfl
 have h2:(gcS s t 1).2.2=0:=by
  show (iJ s t).2=0
  rw [h1]
 have h3:=kN hs ht
 have h4:cD s t=1:=by
  rcases Nat.lt_or_ge 1 (cD s t) with e | e
  ·have:=h3.2.2 1 e
   omega
  ·rcases Nat.eq_zero_or_pos (cD s t) with e2 | e2
   ·have:=h3.2.1
    rw [e2] at this
    have:t.2=0:=this
    omega
   ·omega
 rw [bL,h4]
 rfl
theorem PU  (H:IsG a b G d) (hab:(0<a 0∧∀i,0<i->a i=0)∨(0<b 0∧∀i,0<i->b i=0)):d=0∧∀i,G i=if i=0 then 1 else 0:=by
 have key:∀{f:Nat->Int},el G f->0<f 0->(∀i,0<i->f i=0)->d=0:=fun {f} hd h0 hout=>by
  obtain ⟨q,⟨n,hn⟩,hq⟩:=hd
  have hGp:=H.pos
  have hne:∃i,q i≠0:=Classical.byContradiction fun hno=>by
   have:=hq 0
   rw [fG fun i=>Classical.byContradiction fun e=>hno ⟨i,e⟩] at this
   omega
  obtain ⟨k,h1,h2⟩:=topmost (P:=fun i=>q i≠0) (n:=n) hne fun i hi hne=>hne (hn i hi)
  have h4:f (k+d)≠0:=by
   rw [hq,gM (fun j hj=>Classical.byContradiction fun e=>h2 j hj e) H.out]
   exact Int.mul_ne_zero h1 (by omega)
  exact Classical.byContradiction fun hc=>h4 (hout _ (by omega))
 have hd:d=0:=by
  rcases hab with ⟨h1,h2⟩ | ⟨h1,h2⟩
  ·exact key H.iH h1 h2
  ·exact key H.ji h1 h2
 subst hd
 exact ⟨rfl,vU H.kK H.pos H.out⟩
theorem CK  (hs:Vz s) (ht:Vz t):(cmn s t).2=(bL s t).2∧∀i,(cmn s t).1 i=(bL s t).1 i:=by
 unfold cmn
 by_cases h1:s.2=0
 ·rw [if_pos h1]
  rcases Nat.eq_zero_or_pos t.2 with h2 | h2
  ·rw [vV hs ht h2,h1,h2]
   exact ⟨rfl,fun i=>by rw [hs.1 i (by omega),ht.1 i (by omega)]⟩
  ·rw [CJ hs ht h1 h2]
   exact ⟨rfl,fun _=>rfl⟩
 ·rw [if_neg h1]
  by_cases h2:t.2=0
  ·rw [if_pos h2,vV hs ht h2]
   exact ⟨rfl,fun _=>rfl⟩
  ·rw [if_neg h2]
   by_cases h3:s.2=1∨t.2=1
   ·rw [if_pos h3]
    obtain ⟨h4,H⟩:=sq hs ht (by omega)
    have h5:=PU H (by
     rcases h3 with e | e
     ·have:=(hs.2 (by omega)).1
      rw [e] at this
      exact .inl ⟨this,fun i hi=>hs.1 i (by omega)⟩
     ·have:=(ht.2 (by omega)).1
      rw [e] at this
      exact .inr ⟨this,fun i hi=>ht.1 i (by omega)⟩)
    exact ⟨by show 1=(gcS s t (cD s t)).1.2;omega,fun i=>(h5.2 i).symm⟩
   ·rw [if_neg h3]
    exact ⟨rfl,fun _=>rfl⟩
theorem IsG.symm  (H:IsG a b G d):IsG b a G d:=by
 obtain ⟨U,V,R,hR,hU,hV,h⟩:=H.qb
 exact ⟨H.ji,H.iH,H.kK,H.pos,H.out,V,U,R,hR,hV,hU,fun i=>by rw [Int.add_comm];exact h i⟩
theorem IsG.same {G':Nat->Int}{d':Nat} (H:IsG a b G d) (H':IsG a b G' d'):d=d'∧∀i,G i=G' i:=by
 rcases Nat.le_total d d' with h | h
 ·have:=H.one H'.iH H'.ji H'.kK H'.pos H'.out h
  exact ⟨this.1.symm,fun i=>(this.2 i).symm⟩
 ·have:=H'.one H.iH H.ji H.kK H.pos H.out h
  exact this
def pri (z:Nat->Int) (n:Nat):(Nat->Int)×Nat:=(ae (dvL z n (ba z n)),tl z n)
theorem cI (z:Nat->Int) (n:Nat):Vz (pri z n):=⟨fun i hi=>by
 have hi':tl z n<=i:=hi
 show ae (dvL _ _ _) i=0
 rw [dvL,eG,if_neg (by omega)],fun h=>⟨(sk (h:=h)).1,vR h⟩⟩
theorem PV  (hs:Vz s) (ht:Vz t):Vz (bL s t):=(mL hs ht (j:=cD s t) (kN hs ht).2.2).1
theorem PW:Vz (fun _=>0,0):=⟨fun _ _=>rfl,fun h=>absurd h (Nat.lt_irrefl 0)⟩
end Go.Proofs.YtomamliepbhegaaGreat.Sym
