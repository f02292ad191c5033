/- A polynomial moved by a fraction, told by Horner's steps over the rationals, by the texts RMul and DivY: its numbers. Curves in the form of a result: the least common denominator of rational polynomials, and what is left of numbers over a denominator when their greatest common divisor is taken out, are one. The reference's back, whole, normal, Rebase of curves. -/
import Derived.Test.YthmcngjhkmpneaaGreatPolJ
import Derived.Test.YthmcngjhkmpneaaGreatRMul
import Derived.Test.YthmcngjhkmpneaaGreatDivN
import Derived.Test.YthmcngjhkmpneaaGreatPolM
import Derived.Test.YthmcngjhkmpneaaGreatDivZ
import Derived.Test.YthmcngjhkmpneaaGreatCurP
import Derived.Test.YthmcngjhkmpneaaGreatPolO
import Derived.Test.YthmcngjhkmpneaaGreatPolD
namespace Go.Proofs.YthmcngjhkmpneaaGreat.Sym
open Go.RowKit
def sI (u d:Int) (i:Nat):Int:=if i=0 then u else d
def gM (c:Nat->Int) (T:Nat) (u d:Int):Nat->Nat->Int
 | 0,_=>0
 | j+1,i=>cV (gM c T u d j) (sI u d) 2 j i+(if i=0 then c (T-1-j)*d ^ j else 0)
section
variable {c:Nat->Int}{T n:Nat}{u d:Int}
theorem tz (h0:0<T):∀j,gM c T u d (j+1) j=c (T-1)*d ^ j
 | 0=>by simp [gM,cV]
 | j+1=>by
  rw [gM,if_neg (by omega)]
  have:=tA (z:=gM c T u d (j+1)) (y:=sI u d) (l:=2) (m:=j) (by omega)
  rw [show j+2-1=j+1 by omega] at this
  rw [this,tz h0 j,show (2:Nat)-1=1 from rfl,show sI u d 1=d from rfl,Int.pow_succ,Int.mul_assoc];omega
theorem mj {f:Nat->Int}{n:Nat} (h:f n≠0):tl f (n+1)=n+1:=by
 unfold tl
 exact if_neg h
theorem ml (h0:0<T) (hc:c (T-1)≠0) (hd:d≠0) (j:Nat):gM c T u d (j+1) j≠0:=by
 rw [tz h0]
 exact Int.mul_ne_zero hc (Int.pow_ne_zero hd)
theorem BM (h0:0<T) (hc:c (T-1)≠0) (hd:d≠0) (j p:Nat):cV (gM c T u d j) (sI u d) 2 j p=conv (upto j (gM c T u d j)) (upto 2 (sI u d)) p:=by
 have h1:tl (sI u d) 2=2:=mj hd
 have h2:tl (gM c T u d j) j=j:=by
  cases j with
  | zero=>rfl
  | succ j=>exact mj (ml h0 hc hd j)
 have:=BN (gM c T u d j) (sI u d) j 2 p
 rw [h1,h2] at this
 exact this
theorem tB (h0:0<T) (hc:c (T-1)≠0) (hd:d≠0) (t:Rat):∀j,j<=T->ev t j (gM c T u d j)=(d:Rat) ^ (j-1)*ev (t+u / d) j (fun k=>c (T-j+k))
 | 0,_=>by simp only [ev];grind
 | j+1,hj=>by
  have hd':(d:Rat)≠0:=by exact_mod_cast hd
  have ih:=tB h0 hc hd t j (by omega)
  have e1:ev t (j+1) (gM c T u d (j+1))=ev t (j+1) (fun i=>cV (gM c T u d j) (sI u d) 2 j i)+ev t (j+1) (fun i=>if i=0 then c (T-1-j)*d ^ j else 0):=mm (j+1) _ _
  have e2:ev t (j+1) (fun i=>cV (gM c T u d j) (sI u d) 2 j i)=ev t j (gM c T u d j)*(u+t*d):=by
   rw [gx (y:=conv (upto j (gM c T u d j)) (upto 2 (sI u d))) fun i _=>BM h0 hc hd j i]
   rw [<- oZ (x:=t) (n:=j+1) (m:=j+2) (z:=conv (upto j (gM c T u d j)) (upto 2 (sI u d))) (fun i hi=>BO (a:=j) (b:=2) (fun i hi=>mn hi) (fun i hi=>mn hi) (by omega)) (by omega)]
   rw [tC (b:=2) (fun i hi=>mn hi) (a:=j) (fun i hi=>mn hi),mo,mo]
   congr 1
   simp only [ev,sI]
   simp
   try grind
  have e3:ev t (j+1) (fun i=>if i=0 then c (T-1-j)*d ^ j else 0)=(c (T-1-j):Rat)*(d:Rat) ^ j:=by
   simp only [ev]
   rw [mp (z:=fun i=>if i+1=0 then c (T-1-j)*d ^ j else 0) fun i _=>if_neg (by omega)]
   rw [if_pos trivial]
   push_cast
   grind
  have e4:ev (t+u / d) (j+1) (fun k=>c (T-(j+1)+k))=(c (T-1-j):Rat)+(t+u / d)*ev (t+u / d) j (fun k=>c (T-j+k)):=by
   simp only [ev]
   rw [show T-(j+1)+0=T-1-j by omega,gx (z:=fun i=>c (T-(j+1)+(i+1))) (y:=fun k=>c (T-j+k)) fun i _=>congrArg c (by omega)]
  rw [e1,e2,e3,ih,e4,Nat.add_sub_cancel]
  cases j with
  | zero=>
   simp only [ev,Nat.zero_sub,Rat.pow_zero]
   grind
  | succ j=>
   generalize ev (t+u / d) (j+1) (fun k=>c (T-(j+1)+k))=E
   rw [Nat.add_sub_cancel,Rat.pow_succ]
   have h3:(d:Rat)*(t+u / d)=u+t*d:=by
    rw [Rat.mul_add,Rat.mul_comm (d:Rat) (u / d),Rat.div_mul_cancel hd'];grind
   grind
theorem tD (hT:T=tl c n) (h0:0<T) (hd:d≠0) (i:Nat) (hi:i<T):gM c T u d T i=an (mvL c n u d) i:=by
 have hc:c (T-1)≠0:=hT▸gy c n (hT▸h0)
 refine BP (n:=T) (fun t=>?_) i hi
 have h1:=BQ hd t c n u
 rw [j7,<- hT] at h1
 rw [h1,tB h0 hc hd t T (Nat.le_refl _),<- mo (t+u / d) c n,<- tE,<- hT,gx (y:=c) fun i hi=>congrArg c (by omega)]
def wM (c:Nat->Int) (T:Nat) (u d:Int) (j i:Nat):Rat:=Rat.divInt (gM c T u d j i) (d ^ (j-1))
def cB (u d:Int) (i:Nat):Rat:=Rat.divInt (sI u d i) d
theorem BU (hd:d≠0) (i:Nat):wM c T u d T i*(d:Rat) ^ (T-1)=((gM c T u d T i:Int):Rat):=by
 have h':(d:Rat) ^ (T-1)≠0:=tH (by exact_mod_cast hd) _
 rw [wM,Rat.divInt_eq_div]
 push_cast
 grind
end
def aW (n:Nat) (q r:Nat->Rat) (i:Nat):Rat:=if i<n then q i else r (i-n)
def dh (n:Nat) (z y:Nat->Int) (i:Nat):Int:=if i<n then z i else y (i-n)
def cuX (q:Nat->Rat) (L:Nat) (i:Nat):Int:=(q i).num*((L / (q i).den:Nat):Int)
theorem mr {q:Nat->Rat}{L i:Nat} (h:(q i).den∣L):q i*((L:Int):Rat)=((cuX q L i:Int):Rat):=by
 obtain ⟨e,rfl⟩:=h
 have h0:0<(q i).den:=(q i).den_pos
 have:=BV (q i)
 rw [cuX,Nat.mul_div_cancel_left e h0]
 push_cast at this ⊢
 rw [<- Rat.mul_assoc,this]
theorem BW {a b:Int} (h:((a:Int):Rat)=((b:Int):Rat)):a=b:=by exact_mod_cast h
theorem BZ {q:Nat->Rat}{R:Nat->Int}{C:Int}{n:Nat} (hC:0<C) (hR:∀i,i<n->q i*((C:Int):Rat)=((R i:Int):Rat)) :
  ((dnL q n:Nat):Int)*(ba (dh n R fun _=>C) (n+1):Int)=C∧∀i,i<n->R i=cuX q (dnL q n) i*(ba (dh n R fun _=>C) (n+1):Int):=by
 have h1:dnL q n∣C.natAbs:=ms fun i hi=>tL (by omega) (hR i hi)
 obtain ⟨E,hE⟩:=h1
 have hL:=kh q n
 have hCE:C=((dnL q n:Nat):Int)*(E:Int):=by
  rw [show C=((C.natAbs:Nat):Int) by omega,hE,Int.natCast_mul]
 have hE0:0<E:=by
  rcases Nat.eq_zero_or_pos E with h | h
  ·rw [h] at hCE;omega
  ·exact h
 have hX:∀i,i<n->R i=cuX q (dnL q n) i*(E:Int):=fun i hi=>by
  refine BW ?_
  rw [<- hR i hi,hCE,Rat.intCast_mul,Rat.intCast_mul,<- Rat.mul_assoc,mr (jf hi)]
 have hz:∀i,i<n+1->dh n R (fun _=>C) i=dh n (cuX q (dnL q n)) (fun _=>((dnL q n:Nat):Int)) i*(E:Int):=fun i _=>by
  unfold dh
  split
  ·exact hX i ‹_›
  ·exact hCE
 have hg:ba (dh n R fun _=>C) (n+1)=ba (dh n (cuX q (dnL q n)) fun _=>((dnL q n:Nat):Int)) (n+1)*E:=by
  rw [pc hz,tM];rfl
 have h1:ba (dh n (cuX q (dnL q n)) fun _=>((dnL q n:Nat):Int)) (n+1)=1:=by
  generalize hh:ba (dh n (cuX q (dnL q n)) fun _=>((dnL q n:Nat):Int)) (n+1)=h
  have d1:∀i,i<n->((h:Nat):Int)∣cuX q (dnL q n) i:=fun i hi=>by
   have:=jY (z:=dh n (cuX q (dnL q n)) fun _=>((dnL q n:Nat):Int)) (n:=n+1) i (by omega)
   rw [hh,dh,if_pos hi] at this
   exact this
  have d2:h∣dnL q n:=by
   have:=jY (z:=dh n (cuX q (dnL q n)) fun _=>((dnL q n:Nat):Int)) (n:=n+1) n (by omega)
   rw [hh,dh,if_neg (by omega)] at this
   exact Int.ofNat_dvd.1 this
  obtain ⟨L',hL'⟩:=d2
  have h0:0<h:=by
   rcases Nat.eq_zero_or_pos h with e | e
   ·rw [e,Nat.zero_mul] at hL';omega
   ·exact e
  have hL0:0<L':=by
   rcases Nat.eq_zero_or_pos L' with e | e
   ·rw [e,Nat.mul_zero] at hL';omega
   ·exact e
  have h3:dnL q n∣L':=ms fun i hi=>by
   obtain ⟨x,hx⟩:=d1 i hi
   have h4:=mr (jf (q:=q) hi)
   have:q i*(((L':Int)):Rat)=((x:Int):Rat):=by
    have hne:(((h:Nat):Int):Rat)≠0:=fun e=>by
     have:((h:Nat):Int)=0:=by exact_mod_cast e
     omega
    rw [hx,hL',Int.natCast_mul,Rat.intCast_mul,Rat.intCast_mul] at h4
    have h5:=Rat.mul_inv_cancel _ hne
    generalize (((h:Nat):Int):Rat)⁻¹=w at h5
    have h6:=congrArg (fun t=>t*w) h4
    grind
   exact tL (by omega) this
  have h4:=Nat.le_of_dvd hL0 h3
  rw [hL'] at h4
  rcases Nat.lt_or_ge h 2 with e | e
  ·omega
  ·have:=Nat.mul_le_mul_right L' e
   omega
 rw [h1,Nat.one_mul] at hg
 exact ⟨by rw [hg];exact hCE.symm,fun i hi=>by rw [hg];exact hX i hi⟩
theorem ah.row {w:World}{v:Value}{q:Rat}{k:Nat} (h:ah w v q k):v.cells.size=4∧ah w (.agg v.cells) q k:=by
 obtain ⟨p,n,c,b,p',n',c',b',rfl,h2⟩:=h
 exact ⟨rfl,p,n,c,b,p',n',c',b',rfl,h2⟩
section
variable {Φ:PH}{a b sz:Nat}{F:PH}
theorem B4 (h:∀w v,Φ a w v->v.cells.size=sz∧F 0 w (.agg v.cells)):∀(i p:Nat),[a][i]?=some p->∀w v,Φ p w v->v.cells.size=sz∧F i w (.agg v.cells)
 | 0,p,hp=>by
  simp only [List.getElem?_cons_zero,Option.some.injEq] at hp
  subst hp;exact h
 | i+1,p,hp=>by simp at hp
theorem B5 (h:∀w v,Φ a w v->v.cells.size=sz∧F 0 w (.agg v.cells)) (h':∀w v,Φ b w v->v.cells.size=sz∧F 1 w (.agg v.cells)):∀(i p:Nat),[a,b][i]?=some p->∀w v,Φ p w v->v.cells.size=sz∧F i w (.agg v.cells)
 | 0,p,hp=>by
  simp only [List.getElem?_cons_zero,Option.some.injEq] at hp
  subst hp;exact h
 | 1,p,hp=>by
  simp only [List.getElem?_cons_succ,List.getElem?_cons_zero,Option.some.injEq] at hp
  subst hp;exact h'
 | i+2,p,hp=>by simp at hp
end
abbrev qB (L:List Int) (u d:Int):Nat->Rat:=wM (an L) L.length u d L.length
abbrev dB (Lx Ly:List Int) (u d:Int):Nat:=dnL (aW Lx.length (qB Lx u d) (qB Ly u d)) (Lx.length+Ly.length)
section
variable {Φ:PH}{p q x n m k j:Nat}{u r:Nat->Rat}
end
def pd (c:Nat->Int) (T kx ks:Nat) (t:Rat) (u d:Int):List WP:=[fun w v=>Rw 4 (fun ι w v=>ah w v (((c ι:Int):Rat)) kx) T w v,Dw t ks,Nz T,Ni (((T:Nat):Int)-1),Rw 4 (Df (wM c T u d T) 80) T]
def Ca (c:Nat->Int) (T kx ks:Nat) (t:Rat) (u d:Int) (j:Nat):List WP:=[Ni (((T:Nat):Int)-1-((j:Nat):Int)),Rw 4 (Df (wM c T u d j) 80) j,Dw (-t) ks,fun w v=>ae w v ((-t).num) ks,fun w v=>ae w v ((-t).den:Int) ks,Dw (aD 1 1) 6,fun w v=>ae w v ((aD 1 1).num) 6,fun w v=>ae w v ((aD 1 1).den:Int) 6,Rw 4 (Df (cB u d) 80) 2,Rw 4 (Df (b8 (wM c T u d j) (cB u d) 2 j) 80) (if j=0 then 0 else j+1),Ptr 4 (Dw (((c (T-1-j):Int):Rat)) kx),Dw (((c (T-1-j):Int):Rat)) kx,fun w v=>Rw 4 (fun ι w v=>ah w v ((fun _=>((c (T-1-j):Int):Rat)) ι) 80) 1 w v,fun w v=>Rw 4 (fun ι w v=>ah w v ((aX (b8 (wM c T u d j) (cB u d) 2 j) (if j=0 then 0 else j+1) (fun _=>((c (T-1-j):Int):Rat)) 1) ι) 80) (j+1) w v,Ni ((((T:Nat):Int)-1-((j:Nat):Int))-1)]
def tN:bj:=⟨[0,1,3,4,8,9,10],[(.slot 6,.i),(.slot 5,.s)],[(.one 0,5),(.one 1,6)],[.frm 3,.closed (.one (.nl))],5,[(6,4)]⟩
def tO:List Step:=[bQ [.fact 5,.lit (.ci .i64 0)] oT (au .geq),
   .base ⟨42,[.fact 1],[⟨.agg [.s,.b,.s,.b],[(0,0,7),(0,2,8),(2,2,9)]⟩],false⟩,
   .base ⟨38,[.lit (.ci .i64 1),.lit (.ci .i64 1)],[⟨.agg [.s,.b,.s,.b],[(0,0,10),(0,2,11),(2,2,12)]⟩],false⟩,
   .base ⟨0,[.any,.fact 7,.fact 10],[oS 13],.fresh [] (gv 24 2)⟩,
   .base ⟨10,[.fact 6,.fact 13],[oS 14],false⟩,
   bQ [.fact 0,.fact 5] [oP 15] (aO 24),
   bQ [.fact 15] [oQ 16] (aS 44),
   .base ⟨0,[.any,.fact 16],[oS 17],.fresh [] (gv 24 1)⟩,
   .base ⟨123,[.fact 14,.fact 17],[oS 18],false⟩,
   bQ [.fact 5,.lit (.ci .i64 1)] [oN 19] (au .sub)]
def Cc:List Step:=[bQ [.fact 5,.lit (.ci .i64 0)] oF (au .geq)]
def Cd:List Step:=[bQ [.fact 0] [oN 2] (aI 24),
   bQ [.fact 2,.lit (.ci .i64 1)] [oN 3] (au .sub),
   .loop tN [(tO,[.frm 19,.frm 18])] Cc]
def Ce:List Out:=[oS 0,oQ 1]
set_option maxRecDepth 100000 in
theorem cback {c:Nat->Int}{T kx ks:Nat}{t:Rat}{u d:Int} (hT:T<=6) (hkx:kx<=80) (hks:ks<=80) (kj : -t=cB u d 0) (Cg:aD 1 1=cB u d 1)
  (hB1:∀j,j<T->∀a b p,a<j->b<=2->Bd (bH (wM c T u d j) (cB u d) 2 a b p).num.natAbs 80∧Bd (bH (wM c T u d j) (cB u d) 2 a b p).den 80)
  (hN1:∀j,j<T->(if j=0∨2=0 then 0 else tl (fun i=>((b8 (wM c T u d j) (cB u d) 2 j) i).num) (j+2-1))=(if j=0 then 0 else j+1))
  (hB2:∀j,j<T->∀i,i<max (if j=0 then 0 else j+1) 1->Bd ((aX (b8 (wM c T u d j) (cB u d) 2 j) (if j=0 then 0 else j+1) (fun _=>((c (T-1-j):Int):Rat)) 1 i)).num.natAbs 80∧Bd ((aX (b8 (wM c T u d j) (cB u d) 2 j) (if j=0 then 0 else j+1) (fun _=>((c (T-1-j):Int):Rat)) 1 i)).den 80)
  (hN2:∀j,j<T->tl (fun i=>((aX (b8 (wM c T u d j) (cB u d) 2 j) (if j=0 then 0 else j+1) (fun _=>((c (T-1-j):Int):Rat)) 1 i)).num) (max (if j=0 then 0 else j+1) 1)=j+1)
  (hS:∀j i,j<T->i<j+1->(aX (b8 (wM c T u d j) (cB u d) 2 j) (if j=0 then 0 else j+1) (fun _=>((c (T-1-j):Int):Rat)) 1 i)=wM c T u d (j+1) i):ai (ph (pd c T kx ks t u d)) Tryz.prog ⟨78,[.fact 0,.fact 1],[oS 4],false⟩:=by
 skip
 exact bg Ce [oS 4] Cd Tryz.func78 (by kernel_rfl)
  (lB (a9 (F:=(fun ι w v=>ah w v (((c ι:Int):Rat)) kx)) Tryz.underlying24 ad rfl)
   (lB (cI ad (by omega) rfl (by omega) (by omega))
   (bN (counted T (fun j=>ph (pd c T kx ks t u d ++ Ca c T kx ks t u d j)) (fun _=>0) (fun j p hp=>bO (show p<(pd c T kx ks t u d).length from hp)) ⟨fun _ _ h=>h.trans (congrArg (Value.int .i64) (by omega)),fun w=>Rw.nil 4 (Df (wM c T u d 0) 80) w,trivial⟩ (fun j hj=>by
   have PY:(if j=0 then 0 else j+1)<=7:=by split <;> omega
   exact ⟨(tO,[.frm 19,.frm 18]),rfl,⟨fun _ _ h=>h.trans (congrArg (Value.int .i64) (by omega)),fun _ _ h=>Rw.to (sz:=4) (n:=j+1) (F:=fun i w v=>ah w v ((aX (b8 (wM c T u d j) (cB u d) 2 j) (if j=0 then 0 else j+1) (fun _=>((c (T-1-j):Int):Rat)) 1 i)) 80) h fun i w v hi h=>ah.eq h (hS j i hj hi),trivial⟩,(lB (tP ad)
   (lB (Ch tS rfl rfl rfl rfl)
   (lB (pf (z:=1) (y:=1) rfl rfl rfl (by decide) (by decide) (by decide) (by decide) rfl)
   (lB (jZ (sz:=4) (zc:=.agg [.nl,.cb false,.nl,.cb false]) (n:=2) (ps:=[7,10]) (F:=(Df (cB u d) 80)) Tryz.underlying24 (by kernel_rfl) (by omega) (by kernel_rfl) (by omega) (by omega) rfl (B5 (sz:=4) (F:=(Df (cB u d) 80)) (fun _ _ h=>ah.row (ah.more (ah.eq h kj) (by omega))) (fun _ _ h=>ah.row (ah.more (ah.eq h Cg) (by omega)))) rfl)
   (lB (Ci (q:=(wM c T u d j)) (r:=(cB u d)) (n:=j) (m:=2) (K:=80) ad ad rfl (by omega) (by omega) (by omega) (by omega) (by omega) (by omega) (hB1 j hj) (hN1 j hj))
   (lB (b6 (i:=(T-1-j)) (F:=(fun ι w v=>ah w v (((c ι:Int):Rat)) kx)) Tryz.underlying24 (by kernel_rfl) ad (fun _ _ h=>h.trans (congrArg (Value.int .i64) (by omega))) (by omega) rfl)
   (lB (bK (sz:=4) (F:=Dw (((c (T-1-j):Int):Rat)) kx) (by kernel_rfl) (by kernel_rfl) ad (fun _ _ _ g h=>ah.kp h g) (fun _ _ h=>ah.is h) rfl)
   (lB (jZ (sz:=4) (zc:=.agg [.nl,.cb false,.nl,.cb false]) (n:=1) (ps:=[16]) (F:=(fun ι w v=>ah w v ((fun _=>((c (T-1-j):Int):Rat)) ι) 80)) Tryz.underlying24 (by kernel_rfl) (by omega) (by kernel_rfl) (by omega) (by omega) rfl (B4 (sz:=4) (F:=(fun ι w v=>ah w v ((fun _=>((c (T-1-j):Int):Rat)) ι) 80)) (fun _ _ h=>ah.row (ah.more h (by omega)))) rfl)
   (lB (Cj (q:=(b8 (wM c T u d j) (cB u d) 2 j)) (r:=(fun _=>((c (T-1-j):Int):Rat))) (s:=(aX (b8 (wM c T u d j) (cB u d) 2 j) (if j=0 then 0 else j+1) (fun _=>((c (T-1-j):Int):Rat)) 1)) (n:=(if j=0 then 0 else j+1)) (m:=1) (K:=80) ad ad rfl (by omega) (by omega) (by omega) (by omega) (by omega) (by omega) (by omega) (fun _=>rfl) (hB2 j hj) (hN2 j hj))
   (lB (cI ad (rfl) rfl (by omega) (by omega))
   aC))))))))))⟩)
   (lB (chF ad)
   aC)
   (fun q hq w v h=>by
    simp only [tN,List.mem_cons,List.not_mem_nil,or_false] at hq
    rcases hq with rfl
    ·exact (fun h=>h) h)) aC)))
  (aK [.fact 0 (.one (.s)),.fact 1 (.agg [.s,.b,.s,.b])] ⟨Rw.Is 4 (fun ι w v=>ah w v (((c ι:Int):Rat)) kx) T,fun _ _ h=>ah.is h,trivial⟩) bh
section
variable {Φ:PH}{p q x T kx ks:Nat}{c:Nat->Int}{t:Rat}{u d:Int}
end
section
variable {Φ:PH}{p y x n k l K:Nat}{q:Nat->Rat}{z:Int}{X:Nat->Int}
end
section
variable {Φ:PH}{p y p0 p1 p2 n m k kd K:Nat}{q r:Nat->Rat}
end
section
variable {Φ:PH}{p q r p0 p1 p2 n m k ks kd K:Nat}{x y:Nat->Int}{t:Rat}{u d:Int}{Lx Ly:List Int}
end
end Go.Proofs.YthmcngjhkmpneaaGreat.Sym
