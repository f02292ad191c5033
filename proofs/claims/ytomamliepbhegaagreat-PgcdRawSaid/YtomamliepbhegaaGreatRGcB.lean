/- The reference's greatest -/
import Derived.Test.YtomamliepbhegaaGreatRGcd
import Derived.Test.YtomamliepbhegaaGreatModM
namespace Go.Proofs.YtomamliepbhegaaGreat.Sym
open Go.RowKit
variable {z:Nat->Int}{n:Nat}
def cT (e:Nat):Nat:=if e<=1 then 1 else if e=2 then 259 else if e=3 then 63 else if e=4 then 19 else if e=5 then 7 else 3
theorem Jh:∀e,1<=cT e∧cT e<=259:=fun e=>by unfold cT;split <;> (try split) <;> (try split) <;> (try split) <;> (try split) <;> omega
theorem abR (e:Nat) (h:2<=e):3<=cT e:=by unfold cT;rw [if_neg (by omega)];split <;> (try split) <;> (try split) <;> (try split) <;> omega
theorem abS:((List.range 7).all fun e=>(List.range 7).all fun d=>d == 0 || (decide (cT e+(e+1-d)*(cT d+1)<=3000) && (decide (e<d) || (List.range d).all fun f=>decide (f<2) || decide (cT e+(e+1-d)*(cT d+1)<=cT f))))=true:=by decide +kernel
theorem abT (e:Nat) (he:e<7) (d:Nat) (hd:d<7) (h1:1<=d):cT e+(e+1-d)*(cT d+1)<=3000∧(d<=e->∀f,f<d->2<=f->cT e+(e+1-d)*(cT d+1)<=cT f):=by
 have h:=List.all_eq_true.1 (List.all_eq_true.1 abS e (List.mem_range.2 he)) d (List.mem_range.2 hd)
 simp only [Bool.or_eq_true,Bool.and_eq_true,beq_iff_eq,decide_eq_true_eq,List.all_eq_true,List.mem_range] at h
 rcases h with h | ⟨h2,h3⟩
 ·omega
 ·refine ⟨h2,fun hde f hf h4=>?_⟩
  rcases h3 with h3 | h3
  ·omega
  ·rcases h3 f hf with h5 | h5
   ·omega
   ·exact h5
section
variable {a b:Nat->Int}{m ka kb:Nat}
theorem Ji (ha:∀i,Bd (a i).natAbs ka) (hb:∀i,Bd (b i).natAbs kb):∀l i,Bd ((bn a n b m l).1 i).natAbs (ka+l*(kb+1))
 | 0,i=>by rw [Nat.zero_mul];exact ha i
 | l+1,i=>by
  have ih:=Ji ha hb l
  show Bd (ij (bn a n b m l).1 (bn a n b m l).2 b m i).natAbs _
  have e:ka+(l+1)*(kb+1)=ka+l*(kb+1)+kb+1:=by rw [Nat.succ_mul];omega
  rw [e]
  generalize ka+l*(kb+1)=X at ih
  unfold ij
  split
  ·have h1:Bd ((bn a n b m l).1 i*((b (m-1)).natAbs:Int)).natAbs (X+kb):=by
    rw [Int.natAbs_mul,Int.natAbs_natCast];exact Bd.mul (ih i) (hb _)
   have h2:Bd (if (bn a n b m l).2-m<=i then (if b (m-1)<0 then -(bn a n b m l).1 ((bn a n b m l).2-1) else (bn a n b m l).1 ((bn a n b m l).2-1))*b (i-((bn a n b m l).2-m)) else 0).natAbs (X+kb):=by
    split
    ·rw [Int.natAbs_mul,show (if b (m-1)<0 then -(bn a n b m l).1 ((bn a n b m l).2-1) else (bn a n b m l).1 ((bn a n b m l).2-1)).natAbs=((bn a n b m l).1 ((bn a n b m l).2-1)).natAbs by split <;> omega]
     exact Bd.mul (ih _) (hb _)
    ·exact Nat.pow_pos (by omega)
   refine (Bd.tB h1 h2).le ?_
   rw [Int.sub_eq_add_neg]
   exact Nat.le_trans (Int.natAbs_add_le _ _) (by rw [Int.natAbs_neg];exact Nat.le_refl _)
  ·exact Nat.pow_pos (by omega)
theorem abU (ha:∀i,n<=i->a i=0) (hb:∀i,m<=i->b i=0) (hm:0<m) (hb1:b (m-1)≠0):fS a n b m<=n+1-m:=by
 obtain ⟨⟨-,-,h3⟩,-⟩:=vS ha hb hm hb1
 rcases Nat.eq_zero_or_pos (fS a n b m) with h | h
 ·omega
 ·have h4:=(sm ha hb hm hb1 (j:=fS a n b m-1) fun k hk=>h3 k (by omega)).2.1
  have h5:=h3 (fS a n b m-1) (by omega)
  omega
theorem abV (hz:tl a n=n):tl (rsE a n b m).1 (rsE a n b m).2=(rsE a n b m).2:=by
 unfold rsE
 cases fS a n b m with
 | zero=>exact hz
 | succ j=>exact jG fun h=>fb _ _ h
theorem Jj:(rsE a n b m).2<=n:=yB _ _ _ _ _
end
theorem qh {k:Nat} (h:∀i,Bd (z i).natAbs k) (c:Int) (i:Nat):Bd (ae (dvL z n c) i).natAbs k:=by
 rw [dvL,eG]
 split
 ·exact (h i).le (Int.natAbs_ediv_le_natAbs _ _)
 ·exact mw k
def km (s:(Nat->Int)×Nat):Prop:=Vz s∧s.2<=6∧(2<=s.2->∀i,Bd (s.1 i).natAbs (cT s.2))
theorem km.bd {s:(Nat->Int)×Nat} (h:km s) (i:Nat):Bd (s.1 i).natAbs (cT s.2):=by
 obtain ⟨hv,h6,h2⟩:=h
 rcases Nat.lt_or_ge 1 s.2 with h1 | h1
 ·exact h2 h1 i
 ·rcases Nat.eq_zero_or_pos s.2 with h0 | h0
  ·rw [hv.1 i (by omega)];exact mw _
  ·have e:s.2=1:=by omega
   have hp:=hv.2 h0
   rw [vU hp.2 (by have:=hp.1;rwa [e] at this) (fun j hj=>hv.1 j (by omega)) i,e]
   split
   ·exact Nat.one_lt_pow (by decide) (by decide)
   ·exact mw _
section
variable {s t:(Nat->Int)×Nat}
theorem Jk (hs:km s) (ht:km t) (h0:0<t.2):km (iJ s t)∧(∀l,l<=fS s.1 s.2 t.1 t.2->∀i,Bd ((bn s.1 s.2 t.1 t.2 l).1 i).natAbs 3000):=by
 have hb1:t.1 (t.2-1)≠0:=by have:=(ht.1.2 h0).1;omega
 have hJ:=abU hs.1.1 ht.1.1 h0 hb1
 have hall:=abT s.2 (by have:=hs.2.1;omega) t.2 (by have:=ht.2.1;omega) h0
 have hB:∀l,l<=fS s.1 s.2 t.1 t.2->∀i,Bd ((bn s.1 s.2 t.1 t.2 l).1 i).natAbs (cT s.2+(s.2+1-t.2)*(cT t.2+1)):=fun l hl i=>by
  refine (Ji hs.bd ht.bd l i).more (Nat.add_le_add_left (Nat.mul_le_mul_right _ (by omega)) _)
 have hV:=sn hs.1 ht.1 h0
 refine ⟨⟨hV.1,by have:=hV.2.1;have:=ht.2.1;omega,fun h2 i=>?_⟩,fun l hl i=>(hB l hl i).more hall.1⟩
 show Bd (ae (dvL (rsE s.1 s.2 t.1 t.2).1 (rsE s.1 s.2 t.1 t.2).2 (ba (rsE s.1 s.2 t.1 t.2).1 (rsE s.1 s.2 t.1 t.2).2)) i).natAbs _
 rcases Nat.lt_or_ge s.2 t.2 with hlt | hge
 ·have e0:fS s.1 s.2 t.1 t.2=0:=by omega
  have eE:rsE s.1 s.2 t.1 t.2=s:=by unfold rsE;rw [e0];rfl
  have e2:(iJ s t).2=s.2:=by
   show tl (rsE s.1 s.2 t.1 t.2).1 (rsE s.1 s.2 t.1 t.2).2=s.2
   rw [eE];exact xO hs.1
  rw [e2,eE]
  exact qh hs.bd _ i
 ·exact qh (fun i=>(hB _ (Nat.le_refl _) i).more (hall.2 hge _ hV.2.1 h2)) _ i
theorem Jl (hs:km s) (ht:km t):∀{j},j<=cD s t->km (gcS s t j).1∧km (gcS s t j).2
 | 0,_=>⟨hs,ht⟩
 | j+1,h=>by
  have ih:=Jl hs ht (j:=j) (by omega)
  exact ⟨ih.2,(Jk ih.1 ih.2 ((kN hs.1 ht.1).2.2 j (by omega))).1⟩
theorem wy (s t:(Nat->Int)×Nat){M:Nat} (hs:s.2<=M) (ht:t.2<=M):∀j,(gcS s t j).1.2<=M∧(gcS s t j).2.2<=M
 | 0=>⟨hs,ht⟩
 | j+1=>by
  have ih:=wy s t hs ht j
  refine ⟨ih.2,?_⟩
  show tl (rsE _ _ _ _).1 (rsE _ _ _ _).2<=M
  exact Nat.le_trans (aL _ _) (Nat.le_trans Jj ih.1)
end
theorem Jm  (hn:n<=6) (hb:∀i,Bd (z i).natAbs 3):km (pri z n):=by
 refine ⟨cI z n,Nat.le_trans (aL _ _) hn,fun h i=>(qh hb _ i).more (abR _ h)⟩
section
variable {Φ:PH}{p q x m k l:Nat}{y:Nat->Int}
theorem DU (hp:∀w v,Φ p w v->Rw 4 (fun i w v=>al w v ((z i:Int):Rat) k) n w v) (hq:∀w v,Φ q w v->Rw 4 (fun i w v=>al w v ((y i:Int):Rat) l) m w v) (hx:Φ x=fun w v=>Rw 4 (fun i w v=>al w v (((bL (pri z n) (pri y m)).1 i:Int):Rat) 3000) (bL (pri z n) (pri y m)).2 w v)
  (hz0:tl z n=n) (hy0:tl y m=m) (hz:∀i,Bd (z i).natAbs 3) (hy:∀i,Bd (y i).natAbs 3) (hn:n<=6:=by omega) (hm:m<=6:=by omega):aj Φ Tryz.prog ⟨9,[.fact p,.fact q],[oS x],false⟩:=by
 have h1:=Jm hn hz
 have h2:=Jm hm hy
 have cv:∀{f:Nat->Int}{k n:Nat}{w:World}{v:Value},(∀i,Bd (f i).natAbs 3)->Rw 4 (fun i w v=>al w v ((f i:Int):Rat) k) n w v->Rw 4 (fun i w v=>al w v ((f i:Int):Rat) 3000) n w v:=fun hf h=>h.to fun i w v _ h=>al.fX h ((hf i).more (by omega)) (lI)
 have hw:=fun {j} (hj:j<=cD (pri z n) (pri y m))=>Jl h1 h2 hj
 have hst:=fun {j} (hj:j<cD (pri z n) (pri y m))=>(Jk (hw (Nat.le_of_lt hj)).1 (hw (Nat.le_of_lt hj)).2 ((kN h1.1 h2.1).2.2 j hj)).2
 have hsl:=wy (pri z n) (pri y m) (M:=1000) (Nat.le_trans h1.2.1 (by omega)) (Nat.le_trans h2.2.1 (by omega))
 exact aW (abW (z:=z) (y:=y) (n:=n) (m:=m) (K:=3000) hz0 (fun i _=>(hz i).more (by omega)) hy0 (fun i _=>(hy i).more (by omega)) hsl
  (fun j hj i=>⟨((hw hj).1.bd i).more (Nat.le_trans (Jh _).2 (by omega)),((hw hj).2.bd i).more (Nat.le_trans (Jh _).2 (by omega))⟩) (fun j hj l hl i _=>hst hj (l+1) hl i) (fun j hj=>Nat.le_trans Jj (hsl j).1) (fun j hj=>abV (xO (hw (Nat.le_of_lt hj)).1.1)) (fun j hj i _=>hst hj _ (Nat.le_refl _) i))
  ⟨fun w v h=>cv hz (hp w v h),fun w v h=>cv hy (hq w v h),trivial⟩ ⟨⟨rfl,⟨rfl,rfl,fun _ _ h=>hx▸h⟩,trivial⟩,trivial⟩
end
end Go.Proofs.YtomamliepbhegaaGreat.Sym
