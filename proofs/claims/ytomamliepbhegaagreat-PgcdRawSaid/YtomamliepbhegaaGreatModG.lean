/- divides -/
import Derived.Test.YtomamliepbhegaaGreatModF
import Derived.Test.YtomamliepbhegaaGreatGauI
set_option maxRecDepth 100000
namespace Go.Proofs.YtomamliepbhegaaGreat.Sym
open Go.RowKit
variable {y z:Nat->Int}{k k1 n0 n1:Nat}
def WX (z y:Nat->Int) (n0 n1 k k1:Nat):List WP:=[Rw 2 (If y k1) n1,Rw 2 (If z k) n0]
def WY:List Step:=[.base ⟨122,[1,0],[⟨.one (.s),[]⟩,oL (.ci .i64 0)],true⟩]
def WZ:List Out:=[oS 0,oS 1]
theorem Xa  (hEx:∀(Φ:PH) (p q:Nat),(∀w v,Φ p w v->Rw 2 (If z k) n0 w v)->(∀w v,Φ q w v->Rw 2 (If y k1) n1 w v)->aj Φ Tryz.prog ⟨122,[.fact p,.fact q],[⟨.one .s,[]⟩,oL (.ci .i64 0)],true⟩):aj (ph (WX z y n0 n1 k k1)) Tryz.prog ⟨101,[0,1],oT,false⟩:=aV WZ oT WY Tryz.func101 (by kernel_rfl) (lB (hEx _ _ _ (Rw.To 2 (If z k) n0 (fun _ _ _ _ h=>h)) (Rw.To 2 (If y k1) n1 (fun _ _ _ _ h=>h))) au)
  (aK [.fact 0 (.one (.s)),.fact 1 (.one (.s))] ⟨Rw.Is 2 (If y k1) n1,Rw.Is 2 (If z k) n0,trivial⟩) bg
def Xb (z y:Nat->Int) (n0 n1 k k1:Nat):List WP:=[Rw 2 (If y k1) n1,Rw 2 (If z k) n0]
def Xc:List Step:=[.base ⟨122,[1,0],[⟨.one (.lit (.nl)),[]⟩,oL (.ci .i64 3)],true⟩]
def Xd:List Out:=[oS 0,oS 1]
theorem Gi  (hEx:∀(Φ:PH) (p q:Nat),(∀w v,Φ p w v->Rw 2 (If z k) n0 w v)->(∀w v,Φ q w v->Rw 2 (If y k1) n1 w v)->aj Φ Tryz.prog ⟨122,[.fact p,.fact q],[⟨.one (.lit .nl),[]⟩,oL (.ci .i64 3)],true⟩):aj (ph (Xb z y n0 n1 k k1)) Tryz.prog ⟨101,[0,1],oF,false⟩:=aV Xd oF Xc Tryz.func101 (by kernel_rfl) (lB (hEx _ _ _ (Rw.To 2 (If z k) n0 (fun _ _ _ _ h=>h)) (Rw.To 2 (If y k1) n1 (fun _ _ _ _ h=>h))) au)
  (aK [.fact 0 (.one (.s)),.fact 1 (.one (.s))] ⟨Rw.Is 2 (If y k1) n1,Rw.Is 2 (If z k) n0,trivial⟩) bg
theorem qK (n:Nat) (f:Nat->Int) (i:Nat):ae (aG (mk n f)) i=upto n f i:=by
 rw [mz,eG];rfl
theorem Gj {n m kz ky:Nat}{c:Int} (hz:∀p,Bd (z p).natAbs kz) (hy:∀p,Bd (y p).natAbs ky):∀j,(∀p,Bd (aQ z y n m c j p).natAbs (kz+j*(ky+1)))∧∀i p,Bd (exM z y n m c j i p).natAbs (kz+(j+1)*(ky+1)):=by
 have hM:∀j,(∀p,Bd (aQ z y n m c j p).natAbs (kz+j*(ky+1)))->∀i p,Bd (exM z y n m c j i p).natAbs (kz+(j+1)*(ky+1)):=fun j h i p=>by
  unfold exM kE
  split
  ·have h1:Bd (aQ z y n m c j (m-1-j+n) / c).natAbs (kz+j*(ky+1)):=(h _).le (Int.natAbs_ediv_le_natAbs ..)
   have h2:=Bd.mul h1 (hy (p-(m-1-j)))
   refine (Bd.le (B:=(aQ z y n m c j p-aQ z y n m c j (m-1-j+n) / c*y (p-(m-1-j))).natAbs) (Bd.tB ((h p).more (by omega)) h2) ?_).more ?_
   ·rw [<- Int.natAbs_mul];omega
   ·rw [Nat.succ_mul];omega
  ·refine (h p).more ?_
   rw [Nat.succ_mul];omega
 have hA:∀j,∀p,Bd (aQ z y n m c j p).natAbs (kz+j*(ky+1)):=fun j=>by
  induction j with
  | zero=>exact fun p=>(hz p).more (by omega)
  | succ j ih=>exact hM j ih n
 exact fun j=>⟨hA j,hM j (hA j)⟩
theorem Gk (P:Nat->Prop):∀k,(∃J,J<k∧(∀j,j<J->P j)∧¬P J)∨∀j,j<k->P j
 | 0=>.inr fun _ h=>by omega
 | k+1=>by
  rcases Gk P k with ⟨J,h1,h2,h3⟩ | h
  ·exact .inl ⟨J,by omega,h2,h3⟩
  ·by_cases h1:P k
   ·refine .inr fun j hj=>?_
    rcases Nat.lt_or_ge j k with h2 | h2
    ·exact h j h2
    ·rw [show j=k by omega];exact h1
   ·exact .inl ⟨k,by omega,h,h1⟩
section
variable {Φ:PH}{p q:Nat}{r:Bool}
theorem mg (hp:∀w v,Φ p w v->Rw 2 (If y k1) n1 w v) (hq:∀w v,Φ q w v->Rw 2 (If z k) n0 w v) (hk:∀i,Bd (z i).natAbs k) (hk1:∀i,Bd (y i).natAbs k1)
  (hz0:∀i,n0<=i->z i=0) (hzt:tl z n0=n0) (hy0:∀i,n1<=i->y i=0) (hyt:tl y n1=n1) (na:0<n1) (hr:r=true ↔ el y z) (hn0:n0<=1000:=by omega) (hn1:n1<=1000:=by omega) (hK:k+(n0+1)*(k1+1)<=90000:=by omega):aj Φ Tryz.prog ⟨101,[.fact p,.fact q],[oL (.cb r)],false⟩:=by
 obtain ⟨Z,hZ⟩:∃Z,aG (mk n0 z)=Z:=⟨_,rfl⟩
 obtain ⟨Y,hY⟩:∃Y,aG (mk n1 y)=Y:=⟨_,rfl⟩
 have eZ:ae Z=z:=funext fun i=>by
  rw [<- hZ,qK]
  unfold upto
  split
  ·rfl
  ·exact (hz0 i (by omega)).symm
 have eY:ae Y=y:=funext fun i=>by
  rw [<- hY,qK]
  unfold upto
  split
  ·rfl
  ·exact (hy0 i (by omega)).symm
 have lZ:Z.length=n0:=by rw [<- hZ,iE,hzt]
 have lY:Y.length=n1:=by rw [<- hY,iE,hyt]
 obtain ⟨nb,rfl⟩:∃nb,n1=nb+1:=⟨n1-1,by omega⟩
 obtain ⟨m,hm⟩:∃m,n0-nb=m:=⟨_,rfl⟩
 obtain ⟨c,hc⟩:∃c,y nb=c:=⟨_,rfl⟩
 have hc0:c≠0:=by
  have:=fb y (nb+1) (by omega)
  rw [hyt,Nat.add_sub_cancel,hc] at this
  exact this
 have hld:dc (ae Y) (nb+1)=c:=by
  rw [eY,dc,hyt,if_neg (by omega),Nat.add_sub_cancel,hc]
 have hyo:∀i,nb<i->y i=0:=fun i hi=>hy0 i (by omega)
 have hKm:k+(m+1)*(k1+1)<=k+(n0+1)*(k1+1):=Nat.add_le_add_left (Nat.mul_le_mul_right _ (by omega)) k
 have hkk:k<=90000:=by omega
 have qL:k1<=90000:=by
  have:1*(k1+1)<=(n0+1)*(k1+1):=Nat.mul_le_mul_right _ (by omega)
  omega
 obtain ⟨K,hKe⟩:∃K,k+(m+1)*(k1+1)=K:=⟨_,rfl⟩
 have hM:∀j i p,j<m->Bd (exM (ae Z) (ae Y) nb m c j i p).natAbs K:=fun j i p hj=>by
  rw [eZ,eY]
  refine ((Gj (n:=nb) (m:=m) (c:=c) hk hk1 j).2 i p).more ?_
  have:(j+1)*(k1+1)<=(m+1)*(k1+1):=Nat.mul_le_mul_right _ (by omega)
  omega
 have Gl:el y z->(∀j,j<m->c∣aQ z y nb m c j (m-1-j+nb))∧∀p,p<nb->aQ z y nb m c m p=0:=fun h=>by
  obtain ⟨q,h1,h2⟩:=Qb hc hyo hc0 hz0 h
  exact CL hc hyo hc0 (fun i hi=>h1 i (by omega)) h2
 rcases Gk (fun j=>c∣aQ z y nb m c j (m-1-j+nb)) m with ⟨J,hJ,hdJ,hnd⟩ | hdv
 ·have hrf:r=false:=by
   cases r
   ·rfl
   ·exact absurd ((Gl (hr.1 rfl)).1 J hJ) hnd
  subst hrf
  refine aW (Gi (z:=z) (y:=y) (n0:=n0) (n1:=nb+1) (k:=k) (k1:=k1) fun Ψ p' q' h1 h2=>?_) ⟨hp,hq,trivial⟩ ⟨⟨rfl,trivial⟩,trivial⟩
  exact aW (Ny (K:=K) hkk qL hY lY hZ hld hc0 hJ (by rw [eZ,eY];exact hdJ) (by rw [eZ,eY];exact fun e=>hnd (Int.dvd_of_emod_eq_zero e)) hM) ⟨h1,h2,trivial⟩ ⟨⟨rfl,trivial⟩,⟨rfl,trivial⟩,trivial⟩
 ·obtain ⟨L2,hL2⟩:∃L2,aG (mk (min nb Z.length) (aQ (ae Z) (ae Y) nb m c m))=L2:=⟨_,rfl⟩
  by_cases hl:L2 = []
  ·have hrt:r=true:=hr.2 (Qa hc hyo (fun i hi=>hz0 i (by omega)) hdv fun p hp=>by
    have h1:ae L2 p=0:=by rw [hl];rfl
    rw [<- hL2,qK,eZ,eY,lZ] at h1
    by_cases h2:p<min nb n0
    ·rw [upto,if_pos h2] at h1;exact h1
    ·have h3:m=0:=by omega
     rw [h3]
     exact hz0 p (by omega))
   subst hrt
   rw [hl] at hL2
   refine aW (Xa (z:=z) (y:=y) (n0:=n0) (n1:=nb+1) (k:=k) (k1:=k1) fun Ψ p' q' h1 h2=>?_) ⟨hp,hq,trivial⟩ ⟨⟨rfl,trivial⟩,trivial⟩
   exact fun X w vs hX h'=>(AH (K:=K) (by omega) (by omega) hkk qL hY (by omega) lY (by omega) hZ (by omega) (by omega) (by omega) hld hc0 (by rw [eZ,eY];exact hdv) hM hL2 X w vs hX (fu.ok (l:=[.fact p',.fact q']) (m:=[0,1]) ⟨h1,h2,trivial⟩ h')).mono fun e w' ⟨hg,us,he,ho⟩=>⟨hg,us,he,by
    match us,ho with
    | [a,b],ho=>exact ⟨⟨ho.1.1,fun _ h=>by cases h⟩,⟨ho.2.1.1,fun _ h=>by cases h⟩,trivial⟩⟩
  ·have hl2:0<L2.length:=List.length_pos_iff.2 hl
   have hrf:r=false:=by
    cases r
    ·rfl
    ·refine absurd ?_ hl
     have h1:=(Gl (hr.1 rfl)).2
     rw [<- hL2,eZ,eY,lZ]
     refine List.eq_nil_of_length_eq_zero ?_
     rw [iE]
     refine Nat.eq_zero_of_not_pos fun h0=>?_
     have h2:=fb _ _ h0
     have h3:=aL (aQ z y nb m c m) (min nb n0)
     exact h2 (h1 _ (by omega))
   subst hrf
   refine aW (Gi (z:=z) (y:=y) (n0:=n0) (n1:=nb+1) (k:=k) (k1:=k1) fun Ψ p' q' h1 h2=>?_) ⟨hp,hq,trivial⟩ ⟨⟨rfl,trivial⟩,trivial⟩
   exact aW (NG (K:=K) hkk qL hY lY hZ hld hc0 (by rw [eZ,eY];exact hdv) hM hL2 hl2) ⟨h1,h2,trivial⟩ ⟨⟨rfl,trivial⟩,⟨rfl,trivial⟩,trivial⟩
end
section
variable {Φ:PH}{p q r x la lb P:Nat}{a b:Nat->Int}{c:Int}
theorem Xe {js:List Nat} (hjs:js ≠ []) (hp:∀w v,Φ p w v->ah 1 99 (aA .u64 a) la w v) (hq:∀w v,Φ q w v->v = .int .u64 c) (hr:∀w v,Φ r w v->v = .int .u64 ((P:Nat):Int)) (hx:Φ x=ah 1 99 (aA .u64 (scl P c a)) la)
  (hla:la<=1000000) (hP:0<P) (eh:P<2147483648) (hc:0<=c∧c<P) (ha:∀j,0<=a j∧a j<P):aj Φ Tryz.prog ⟨100,[.fact p,.fact q,.fact r],[oS x],.cV js js [(js,js),([],[]),([],[])] false⟩:=fun X L W0 w vs hgr hX hL hLX hone hag=>by
 match vs,hag with
 | [v,u1,u2],hag=>
  obtain ⟨⟨hv,hlo⟩,⟨h1,h1'⟩,⟨h2,h2'⟩,-⟩:=hag
  have hsh:(bK.one .s).is v:=Rw.is (hp _ _ (hv w (Off.refl _ _))).rw
  refine (xy (Φ:=ph [ah 1 99 (aA .u64 a) la,gm fun _=>True,Nu c,Nu ((P:Nat):Int),ah 1 99 (aA .u64 (scl P c a)) la]) (S:=fun _=>True) (p:=0) (s:=1) (q:=2) (r:=3) (x:=4) (y:=1) (js:=js) hjs ad ad ad ad rfl rfl hla hP eh hc ha X L W0 w [v,u1,u2] hgr hX hL hLX hone ⟨⟨⟨hsh,fun z hz w1 hw=>?_⟩,hlo⟩,⟨fun w1 hw=>hq _ _ (h1 w1 hw),h1'⟩,⟨fun w1 hw=>hr _ _ (h2 w1 hw),h2'⟩,trivial⟩).mono fun e w' ⟨us,he,hwr,ho,iw⟩=>⟨us,he,hwr,?_,iw⟩
  ·simp only [List.mem_cons,List.not_mem_nil,or_false] at hz
   rcases hz with rfl | rfl
   ·exact hp _ _ (hv w1 hw)
   ·exact fun _ _=>trivial
  ·match us,ho with
   | [u],ho=>exact cL ho.1.1 hx fun w1 hw=>ho.1.2 (0,0,4) (List.mem_cons_self ..) w1 hw
theorem Xf (hp:∀w v,Φ p w v->ah 1 99 (aA .u64 a) la w v) (hq:∀w v,Φ q w v->ah 1 99 (aA .u64 b) lb w v) (hr:∀w v,Φ r w v->v = .int .u64 ((P:Nat):Int)) (hx:Φ x=ah 1 99 (aA .u64 (imG P a la b lb)) (ig P a la b lb))
  (hla:la<=1000000) (hlb:lb<=1000000) (hP:Prm P) (eh:P<2147483648) (ha:Vd P a la) (hb:Vd P b lb) (hne:0<la∨0<lb):aj Φ Tryz.prog ⟨97,[.fact p,.fact q,.fact r],[oS x],.cV [1,2] [1,2] [([1],[1]),([2],[2]),([],[])] false⟩:=fun X L W0 w vs hgr hX hL hLX hone hag=>by
 have hJ:=vP hP ha hb hne
 have hP1:1<P:=by have:=hP.1;omega
 have hS:∀j,j<=euJ P a la b lb->(∀i,0<=(euS P a la b lb j).1.1 i∧(euS P a la b lb j).1.1 i<P)∧(∀i,0<=(euS P a la b lb j).2.1 i∧(euS P a la b lb j).2.1 i<P)∧(euS P a la b lb j).1.2<=1000000∧(euS P a la b lb j).2.2<=1000000:=fun j hj=>by
  have h1:=mH hP ha hb hne (j:=j) fun k hk=>hJ.2.2 k (by omega)
  refine ⟨h1.1.1,h1.2.1.1,?_,by have:=h1.2.2.1;omega⟩
  cases j with
  | zero=>exact hla
  | succ j=>
   have h2:=mH hP ha hb hne (j:=j) fun k hk=>hJ.2.2 k (by omega)
   show (euS P a la b lb j).2.2<=1000000
   have:=h2.2.2.1
   omega
 have hJl:=(Cq hP ha hb hne hJ.2.1 hJ.2.2).1
 match vs,hag with
 | [v,u1,u2],hag=>
  obtain ⟨⟨hv,hlo⟩,⟨hu,hlu⟩,⟨h2,-⟩,-⟩:=hag
  have e2:u2 = .int .u64 ((P:Nat):Int):=hr _ _ (h2 w (Off.refl _ _))
  subst e2
  have l1:∀g,blk v=some g->L 1 g:=fun g hg=>by
   obtain ⟨j,h3,h4⟩:=hlo (by simp) g hg
   rw [List.mem_singleton.1 h3] at h4;exact h4
  have l2:∀g,blk u1=some g->L 2 g:=fun g hg=>by
   obtain ⟨j,h3,h4⟩:=hlu (by simp) g hg
   rw [List.mem_singleton.1 h3] at h4;exact h4
  refine (Wy (S:=fun k=>L 1 k∨L 2 k) (w0:=w) hP1 eh hS hJ.2.2 hJ.2.1 hJl (fun j k=>(j=2∧L 1 k)∨(j=3∧L 2 k)) W0 [v,u1,.int .u64 ((P:Nat):Int)] hgr (fun j k h=>by rcases h with ⟨-,h⟩ | ⟨-,h⟩ <;> exact hL _ k h) (fun i j k h1 h2=>?_) (fun j k h=>h.elim (fun h=>.inl h.2) fun h=>.inr h.2) ⟨⟨⟨Rw.is (hp _ _ (hv w (Off.refl _ _))).rw,fun z hz w1 hw=>?_⟩,fun _ g hg=>⟨2,List.mem_cons_self ..,.inl ⟨rfl,l1 g hg⟩⟩⟩,⟨⟨Rw.is (hq _ _ (hu w (Off.refl _ _))).rw,fun z hz w1 hw=>?_⟩,fun _ g hg=>⟨3,List.mem_cons_self ..,.inr ⟨rfl,l2 g hg⟩⟩⟩,⟨⟨cJ _ _,fun z hz w1 hw=>by rw [List.mem_singleton.1 hz];rfl⟩,fun h=>absurd rfl h⟩,trivial⟩).mono fun e w' ⟨u,he,hwr,ho⟩=>?_
  ·rcases h1 with ⟨rfl,h1⟩ | ⟨rfl,h1⟩ <;> rcases h2 with ⟨rfl,h2⟩ | ⟨rfl,h2⟩
   ·rfl
   ·have:=hone 1 2 k h1 h2;omega
   ·have:=hone 2 1 k h1 h2;omega
   ·rfl
  ·simp only [List.mem_cons,List.not_mem_nil,or_false] at hz
   rcases hz with rfl | rfl
   ·refine hp _ _ (hv w1 (hw.wide fun k hk=>.inr ⟨2,by simp,by decide,?_⟩))
    obtain ⟨j,h3,h4⟩:=hk
    rcases h4 with ⟨rfl,h4⟩ | ⟨-,h4⟩
    ·exact absurd (List.mem_cons_self ..) h3
    ·exact h4
   ·exact fun g hg=>.inl (l1 g hg)
  ·simp only [List.mem_cons,List.not_mem_nil,or_false] at hz
   rcases hz with rfl | rfl
   ·refine hq _ _ (hu w1 (hw.wide fun k hk=>.inr ⟨1,by simp,by decide,?_⟩))
    obtain ⟨j,h3,h4⟩:=hk
    rcases h4 with ⟨-,h4⟩ | ⟨rfl,h4⟩
    ·exact h4
    ·exact absurd (List.mem_cons_self ..) h3
   ·exact fun g hg=>.inr (l2 g hg)
  ·have hrow:ah 1 99 (aA .u64 (imG P a la b lb)) (ig P a la b lb) w' u:=ho.1.2 _ (List.mem_cons_self ..) w' (Off.refl _ _)
   have hin:gm (fun k=>L 1 k∨L 2 k) w' u:=ho.1.2 _ (List.mem_cons_of_mem _ (List.mem_cons_self ..)) w' (Off.refl _ _)
   have hin':∀g,blk u=some g->∃j,j ∈ [1,2]∧L j g:=fun g hg=>by
    rcases hin g hg with h | h
    ·exact ⟨1,by simp,h⟩
    ·exact ⟨2,by simp,h⟩
   refine ⟨[u],he,⟨hwr.1,hwr.2.1,fun k hk hn=>hwr.2.2 k hk fun h=>hn ?_⟩,cL ho.1.1 hx fun w1 hw=>ah.off qI hrow hw fun g hg h=>?_,fun u' hu' g hg=>?_⟩
   ·rcases h with h | h
    ·exact ⟨1,by simp,h⟩
    ·exact ⟨2,by simp,h⟩
   ·obtain ⟨j,hj,h3⟩:=hin' g hg
    rcases h with h | ⟨i,h4,h5,h6⟩
    ·exact hLX j g hj h3 h
    ·exact h5 h4
   ·obtain rfl:=Option.some.inj hu'
    exact hin' g hg
end
end Go.Proofs.YtomamliepbhegaaGreat.Sym
