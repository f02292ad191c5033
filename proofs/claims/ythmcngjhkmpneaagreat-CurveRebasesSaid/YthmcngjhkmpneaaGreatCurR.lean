/- A polynomial moved by a fraction, told by Horner's steps over the rationals, by the texts RMul and DivY: its numbers. Curves in the form of a result: the least common denominator of rational polynomials, and what is left of numbers over a denominator when their greatest common divisor is taken out, are one. The reference's back, whole, normal, Rebase of curves. -/
import Derived.Test.YthmcngjhkmpneaaGreatPolJ
import Derived.Test.YthmcngjhkmpneaaGreatRMul
import Derived.Test.YthmcngjhkmpneaaGreatDivN
import Derived.Test.YthmcngjhkmpneaaGreatPolM
import Derived.Test.YthmcngjhkmpneaaGreatDivZ
import Derived.Test.YthmcngjhkmpneaaGreatCurP
import Derived.Test.YthmcngjhkmpneaaGreatPolO
import Derived.Test.YthmcngjhkmpneaaGreatPolD
set_option maxRecDepth 100000
namespace Go.Proofs.YthmcngjhkmpneaaGreat.Sym
open Go.RowKit
def sI (u d:Int) (i:Nat):Int:=if i=0 then u else d
def gM (c:Nat->Int) (T:Nat) (u d:Int):Nat->Nat->Int
 | 0,_=>0
 | j+1,i=>cV (gM c T u d j) (sI u d) 2 j i+(if i=0 then c (T-1-j)*d ^ j else 0)
section
variable {c:Nat->Int}{T n:Nat}{u d:Int}
theorem tz (h0:0<T):∀j,gM c T u d (j+1) j=c (T-1)*d ^ j
 | 0=>by simp [gM,cV]
 | j+1=>by
  rw [gM,if_neg (by omega)]
  have:=tA (z:=gM c T u d (j+1)) (y:=sI u d) (l:=2) (m:=j) (by omega)
  rw [show j+2-1=j+1 by omega] at this
  rw [this,tz h0 j,show (2:Nat)-1=1 from rfl,show sI u d 1=d from rfl,Int.pow_succ,Int.mul_assoc];omega
theorem mj {f:Nat->Int}{n:Nat} (h:f n≠0):tl f (n+1)=n+1:=by
 unfold tl
 exact if_neg h
theorem ml (h0:0<T) (hc:c (T-1)≠0) (hd:d≠0) (j:Nat):gM c T u d (j+1) j≠0:=by
 rw [tz h0]
 exact Int.mul_ne_zero hc (Int.pow_ne_zero hd)
theorem BM (h0:0<T) (hc:c (T-1)≠0) (hd:d≠0) (j p:Nat):cV (gM c T u d j) (sI u d) 2 j p=conv (upto j (gM c T u d j)) (upto 2 (sI u d)) p:=by
 have h1:tl (sI u d) 2=2:=mj hd
 have h2:tl (gM c T u d j) j=j:=by
  cases j with
  | zero=>rfl
  | succ j=>exact mj (ml h0 hc hd j)
 have:=BN (gM c T u d j) (sI u d) j 2 p
 rw [h1,h2] at this
 exact this
theorem tB (h0:0<T) (hc:c (T-1)≠0) (hd:d≠0) (t:Rat):∀j,j<=T->ev t j (gM c T u d j)=(d:Rat) ^ (j-1)*ev (t+u / d) j (fun k=>c (T-j+k))
 | 0,_=>by simp only [ev];grind
 | j+1,hj=>by
  have hd':(d:Rat)≠0:=by exact_mod_cast hd
  have ih:=tB h0 hc hd t j (by omega)
  have e1:ev t (j+1) (gM c T u d (j+1))=ev t (j+1) (fun i=>cV (gM c T u d j) (sI u d) 2 j i)+ev t (j+1) (fun i=>if i=0 then c (T-1-j)*d ^ j else 0):=mm (j+1) _ _
  have e2:ev t (j+1) (fun i=>cV (gM c T u d j) (sI u d) 2 j i)=ev t j (gM c T u d j)*(u+t*d):=by
   rw [gx (y:=conv (upto j (gM c T u d j)) (upto 2 (sI u d))) fun i _=>BM h0 hc hd j i]
   rw [<- oZ (x:=t) (n:=j+1) (m:=j+2) (z:=conv (upto j (gM c T u d j)) (upto 2 (sI u d))) (fun i hi=>BO (a:=j) (b:=2) (fun i hi=>mn hi) (fun i hi=>mn hi) (by omega)) (by omega)]
   rw [tC (b:=2) (fun i hi=>mn hi) (a:=j) (fun i hi=>mn hi),mo,mo]
   congr 1
   simp only [ev,sI]
   simp
   try grind
  have e3:ev t (j+1) (fun i=>if i=0 then c (T-1-j)*d ^ j else 0)=(c (T-1-j):Rat)*(d:Rat) ^ j:=by
   simp only [ev]
   rw [mp (z:=fun i=>if i+1=0 then c (T-1-j)*d ^ j else 0) fun i _=>if_neg (by omega)]
   rw [if_pos trivial]
   push_cast
   grind
  have e4:ev (t+u / d) (j+1) (fun k=>c (T-(j+1)+k))=(c (T-1-j):Rat)+(t+u / d)*ev (t+u / d) j (fun k=>c (T-j+k)):=by
   simp only [ev]
   rw [show T-(j+1)+0=T-1-j by omega,gx (z:=fun i=>c (T-(j+1)+(i+1))) (y:=fun k=>c (T-j+k)) fun i _=>congrArg c (by omega)]
  rw [e1,e2,e3,ih,e4,Nat.add_sub_cancel]
  cases j with
  | zero=>
   simp only [ev,Nat.zero_sub,Rat.pow_zero]
   grind
  | succ j=>
   generalize ev (t+u / d) (j+1) (fun k=>c (T-(j+1)+k))=E
   rw [Nat.add_sub_cancel,Rat.pow_succ]
   have h3:(d:Rat)*(t+u / d)=u+t*d:=by
    rw [Rat.mul_add,Rat.mul_comm (d:Rat) (u / d),Rat.div_mul_cancel hd'];grind
   grind
theorem tD (hT:T=tl c n) (h0:0<T) (hd:d≠0) (i:Nat) (hi:i<T):gM c T u d T i=an (mvL c n u d) i:=by
 have hc:c (T-1)≠0:=hT▸gy c n (hT▸h0)
 refine BP (n:=T) (fun t=>?_) i hi
 have h1:=BQ hd t c n u
 rw [j7,<- hT] at h1
 rw [h1,tB h0 hc hd t T (Nat.le_refl _),<- mo (t+u / d) c n,<- tE,<- hT,gx (y:=c) fun i hi=>congrArg c (by omega)]
def wM (c:Nat->Int) (T:Nat) (u d:Int) (j i:Nat):Rat:=Rat.divInt (gM c T u d j i) (d ^ (j-1))
def cB (u d:Int) (i:Nat):Rat:=Rat.divInt (sI u d i) d
theorem o3 {a b D:Int} (h:D≠0):Rat.divInt a D+Rat.divInt b D=Rat.divInt (a+b) D:=by
 have h':(D:Rat)≠0:=by exact_mod_cast h
 rw [Rat.divInt_eq_div,Rat.divInt_eq_div,Rat.divInt_eq_div]
 push_cast
 grind
theorem ij (D:Int):Rat.divInt 0 D=0:=Rat.zero_divInt D
theorem o4 {z y:Nat->Int}{D E:Int}{l:Nat} (hD:D≠0) (hE:E≠0):∀(j p:Nat),b8 (fun i=>Rat.divInt (z i) D) (fun i=>Rat.divInt (y i) E) l j p=Rat.divInt (cV z y l j p) (D*E)
 | 0,p=>(ij _).symm
 | j+1,p=>by
  rw [b8,cV,o4 hD hE j p,<- o3 (Int.mul_ne_zero hD hE)]
  congr 1
  split
  ·exact Rat.divInt_mul_divInt ..
  ·exact (ij _).symm
theorem BS {z y:Nat->Int}{D E:Int}{l j i p:Nat} (hD:D≠0) (hE:E≠0):bH (fun i=>Rat.divInt (z i) D) (fun i=>Rat.divInt (y i) E) l j i p=Rat.divInt (mq z y l j i p) (D*E):=by
 rw [bH,mq,o4 hD hE j p,<- o3 (Int.mul_ne_zero hD hE)]
 congr 1
 split
 ·exact Rat.divInt_mul_divInt ..
 ·exact (ij _).symm
theorem tF {a D:Int} (h:D≠0):(Rat.divInt a D).num=0 ↔ a=0:=by
 have h':(D:Rat)≠0:=by exact_mod_cast h
 rw [Rat.num_eq_zero,Rat.divInt_eq_div]
 constructor
 ·intro e
  have:(a:Rat)=0:=by grind
  exact_mod_cast this
 ·rintro rfl
  grind
theorem tG (hd:d≠0) (j p:Nat):b8 (wM c T u d j) (cB u d) 2 j p=Rat.divInt (cV (gM c T u d j) (sI u d) 2 j p) (d ^ j):=by
 have h:=o4 (z:=gM c T u d j) (y:=sI u d) (l:=2) (D:=d ^ (j-1)) (E:=d) (Int.pow_ne_zero hd) hd j p
 refine h.trans ?_
 cases j with
 | zero=>rw [show cV (gM c T u d 0) (sI u d) 2 0 p=0 from rfl,ij,ij]
 | succ j=>rw [Nat.add_sub_cancel,<- Int.pow_succ]
theorem BT (h0:0<T) (hc:c (T-1)≠0) (hd:d≠0) (j:Nat):(if j=0∨2=0 then 0 else tl (fun i=>(b8 (wM c T u d j) (cB u d) 2 j i).num) (j+2-1))=if j=0 then 0 else j+1:=by
 cases j with
 | zero=>rfl
 | succ j=>
  rw [if_neg (by omega),if_neg (by omega),show j+1+2-1=(j+1)+1 by omega]
  refine mj ?_
  rw [tG hd]
  intro h
  have h2:=(tF (Int.pow_ne_zero hd)).1 h
  have:=tA (z:=gM c T u d (j+1)) (y:=sI u d) (l:=2) (m:=j) (by omega)
  rw [show j+2-1=j+1 by omega] at this
  rw [this] at h2
  exact Int.mul_ne_zero (ml h0 hc hd j) hd h2
theorem o5 (hd:d≠0) (j i:Nat) (hi:i<j+1):aX (b8 (wM c T u d j) (cB u d) 2 j) (if j=0 then 0 else j+1) (fun _=>((c (T-1-j):Int):Rat)) 1 i=wM c T u d (j+1) i:=by
 have hp:d ^ j≠0:=Int.pow_ne_zero hd
 have e1:dO (if j=0 then 0 else j+1) (b8 (wM c T u d j) (cB u d) 2 j) i=Rat.divInt (cV (gM c T u d j) (sI u d) 2 j i) (d ^ j):=by
  unfold dO
  by_cases h:j=0
  ·subst h
   rw [if_neg (by simp),show cV (gM c T u d 0) (sI u d) 2 0 i=0 from rfl,ij]
  ·rw [if_neg h,if_pos hi,tG hd]
 have e2:dO 1 (fun _=>((c (T-1-j):Int):Rat)) i=Rat.divInt (if i=0 then c (T-1-j)*d ^ j else 0) (d ^ j):=by
  unfold dO
  by_cases h:i=0
  ·rw [if_pos (by omega),if_pos h,Rat.divInt_eq_div]
   have h':((d ^ j:Int):Rat)≠0:=by exact_mod_cast hp
   push_cast at h' ⊢
   grind
  ·rw [if_neg (by omega),if_neg h,ij]
 rw [aX,e1,e2,o3 hp]
 rfl
theorem BU (hd:d≠0) (i:Nat):wM c T u d T i*(d:Rat) ^ (T-1)=((gM c T u d T i:Int):Rat):=by
 have h':(d:Rat) ^ (T-1)≠0:=tH (by exact_mod_cast hd) _
 rw [wM,Rat.divInt_eq_div]
 push_cast
 grind
theorem tI {ku:Nat} (hu:Bd u.natAbs ku) (hd:Bd d.natAbs ku) (i:Nat):Bd (sI u d i).natAbs ku:=by
 unfold sI
 split
 ·exact hu
 ·exact hd
theorem tJ {kc ku:Nat} (hc:∀i,i<T->Bd (c i).natAbs kc) (h0:0<T) (hu:Bd u.natAbs ku) (hd:Bd d.natAbs ku):∀j,j<=T->∀i,Bd (gM c T u d j i).natAbs (kc+1+j*(ku+T+1))
 | 0,_,i=>Nat.pow_pos (by omega)
 | j+1,hj,i=>by
  have h1:=o6 (c:=T) (n:=j) (l:=2) (fun i _=>tJ hc h0 hu hd j (by omega) i) (fun i _=>tI hu hd i) (Nat.le_refl j) (by omega) i
  have h2:Bd (if i=0 then c (T-1-j)*d ^ j else 0).natAbs (kc+1+j*(ku+T+1)+ku+j):=by
   split
   ·rw [Int.natAbs_mul,Int.natAbs_pow]
    refine (Bd.mul (hc _ (by omega)) (Bd.kg hd j)).more ?_
    rw [Nat.mul_add,Nat.mul_add];omega
   ·exact Nat.pow_pos (by omega)
  rw [gM]
  refine ((Bd.o7 h1 h2).le (Int.natAbs_add_le _ _)).more ?_
  rw [Nat.succ_mul];omega
theorem tK {a D:Int}{k:Nat} (hD:D≠0) (ha:Bd a.natAbs k) (hk:Bd D.natAbs k):Bd (Rat.divInt a D).num.natAbs k∧Bd (Rat.divInt a D).den k:=⟨ha.le (o8 _ _),hk.le (o9 hD)⟩
end
def aW (n:Nat) (q r:Nat->Rat) (i:Nat):Rat:=if i<n then q i else r (i-n)
def dh (n:Nat) (z y:Nat->Int) (i:Nat):Int:=if i<n then z i else y (i-n)
def cuX (q:Nat->Rat) (L:Nat) (i:Nat):Int:=(q i).num*((L / (q i).den:Nat):Int)
theorem mr {q:Nat->Rat}{L i:Nat} (h:(q i).den∣L):q i*((L:Int):Rat)=((cuX q L i:Int):Rat):=by
 obtain ⟨e,rfl⟩:=h
 have h0:0<(q i).den:=(q i).den_pos
 have:=BV (q i)
 rw [cuX,Nat.mul_div_cancel_left e h0]
 push_cast at this ⊢
 rw [<- Rat.mul_assoc,this]
theorem BW {a b:Int} (h:((a:Int):Rat)=((b:Int):Rat)):a=b:=by exact_mod_cast h
theorem BZ {q:Nat->Rat}{R:Nat->Int}{C:Int}{n:Nat} (hC:0<C) (hR:∀i,i<n->q i*((C:Int):Rat)=((R i:Int):Rat)) :
  ((dnL q n:Nat):Int)*(ba (dh n R fun _=>C) (n+1):Int)=C∧∀i,i<n->R i=cuX q (dnL q n) i*(ba (dh n R fun _=>C) (n+1):Int):=by
 have h1:dnL q n∣C.natAbs:=ms fun i hi=>tL (by omega) (hR i hi)
 obtain ⟨E,hE⟩:=h1
 have hL:=kh q n
 have hCE:C=((dnL q n:Nat):Int)*(E:Int):=by
  rw [show C=((C.natAbs:Nat):Int) by omega,hE,Int.natCast_mul]
 have hE0:0<E:=by
  rcases Nat.eq_zero_or_pos E with h | h
  ·rw [h] at hCE;omega
  ·exact h
 have hX:∀i,i<n->R i=cuX q (dnL q n) i*(E:Int):=fun i hi=>by
  refine BW ?_
  rw [<- hR i hi,hCE,Rat.intCast_mul,Rat.intCast_mul,<- Rat.mul_assoc,mr (jf hi)]
 have hz:∀i,i<n+1->dh n R (fun _=>C) i=dh n (cuX q (dnL q n)) (fun _=>((dnL q n:Nat):Int)) i*(E:Int):=fun i _=>by
  unfold dh
  split
  ·exact hX i ‹_›
  ·exact hCE
 have hg:ba (dh n R fun _=>C) (n+1)=ba (dh n (cuX q (dnL q n)) fun _=>((dnL q n:Nat):Int)) (n+1)*E:=by
  rw [pc hz,tM];rfl
 have h1:ba (dh n (cuX q (dnL q n)) fun _=>((dnL q n:Nat):Int)) (n+1)=1:=by
  generalize hh:ba (dh n (cuX q (dnL q n)) fun _=>((dnL q n:Nat):Int)) (n+1)=h
  have d1:∀i,i<n->((h:Nat):Int)∣cuX q (dnL q n) i:=fun i hi=>by
   have:=jY (z:=dh n (cuX q (dnL q n)) fun _=>((dnL q n:Nat):Int)) (n:=n+1) i (by omega)
   rw [hh,dh,if_pos hi] at this
   exact this
  have d2:h∣dnL q n:=by
   have:=jY (z:=dh n (cuX q (dnL q n)) fun _=>((dnL q n:Nat):Int)) (n:=n+1) n (by omega)
   rw [hh,dh,if_neg (by omega)] at this
   exact Int.ofNat_dvd.1 this
  obtain ⟨L',hL'⟩:=d2
  have h0:0<h:=by
   rcases Nat.eq_zero_or_pos h with e | e
   ·rw [e,Nat.zero_mul] at hL';omega
   ·exact e
  have hL0:0<L':=by
   rcases Nat.eq_zero_or_pos L' with e | e
   ·rw [e,Nat.mul_zero] at hL';omega
   ·exact e
  have h3:dnL q n∣L':=ms fun i hi=>by
   obtain ⟨x,hx⟩:=d1 i hi
   have h4:=mr (jf (q:=q) hi)
   have:q i*(((L':Int)):Rat)=((x:Int):Rat):=by
    have hne:(((h:Nat):Int):Rat)≠0:=fun e=>by
     have:((h:Nat):Int)=0:=by exact_mod_cast e
     omega
    rw [hx,hL',Int.natCast_mul,Rat.intCast_mul,Rat.intCast_mul] at h4
    have h5:=Rat.mul_inv_cancel _ hne
    generalize (((h:Nat):Int):Rat)⁻¹=w at h5
    have h6:=congrArg (fun t=>t*w) h4
    grind
   exact tL (by omega) this
  have h4:=Nat.le_of_dvd hL0 h3
  rw [hL'] at h4
  rcases Nat.lt_or_ge h 2 with e | e
  ·omega
  ·have:=Nat.mul_le_mul_right L' e
   omega
 rw [h1,Nat.one_mul] at hg
 exact ⟨by rw [hg];exact hCE.symm,fun i hi=>by rw [hg];exact hX i hi⟩
theorem ah.row {w:World}{v:Value}{q:Rat}{k:Nat} (h:ah w v q k):v.cells.size=4∧ah w (.agg v.cells) q k:=by
 obtain ⟨p,n,c,b,p',n',c',b',rfl,h2⟩:=h
 exact ⟨rfl,p,n,c,b,p',n',c',b',rfl,h2⟩
section
variable {Φ:PH}{a b sz:Nat}{F:PH}
theorem B4 (h:∀w v,Φ a w v->v.cells.size=sz∧F 0 w (.agg v.cells)):∀(i p:Nat),[a][i]?=some p->∀w v,Φ p w v->v.cells.size=sz∧F i w (.agg v.cells)
 | 0,p,hp=>by
  simp only [List.getElem?_cons_zero,Option.some.injEq] at hp
  subst hp;exact h
 | i+1,p,hp=>by simp at hp
theorem B5 (h:∀w v,Φ a w v->v.cells.size=sz∧F 0 w (.agg v.cells)) (h':∀w v,Φ b w v->v.cells.size=sz∧F 1 w (.agg v.cells)):∀(i p:Nat),[a,b][i]?=some p->∀w v,Φ p w v->v.cells.size=sz∧F i w (.agg v.cells)
 | 0,p,hp=>by
  simp only [List.getElem?_cons_zero,Option.some.injEq] at hp
  subst hp;exact h
 | 1,p,hp=>by
  simp only [List.getElem?_cons_succ,List.getElem?_cons_zero,Option.some.injEq] at hp
  subst hp;exact h'
 | i+2,p,hp=>by simp at hp
end
theorem B6 {u d:Int} (hd:d≠0):aD 1 1=cB u d 1:=by
 rw [mt]
 have h':(d:Rat)≠0:=by exact_mod_cast hd
 rw [cB,Rat.divInt_eq_div,show sI u d 1=d from rfl,Rat.div_def,Rat.mul_inv_cancel _ h']
 rfl
abbrev qB (L:List Int) (u d:Int):Nat->Rat:=wM (an L) L.length u d L.length
abbrev dB (Lx Ly:List Int) (u d:Int):Nat:=dnL (aW Lx.length (qB Lx u d) (qB Ly u d)) (Lx.length+Ly.length)
theorem B7 {Φ:PH}{x:Nat}{e:TypeId}{F:PH} (hx:Φ x=am 4 e F 0) (X:Nat->Prop) (w:World) (v:Value) (h:(Arg.parts (.one (.lit .nl)) []).ok Φ X w v):(Arg.fact x).ok Φ X w v:=fun w1 _=>by
 rw [hx]
 have e:v = .slice none 0 0:=h.1.1
 rw [e]
 exact am.nil _ _ _ _
section
variable {Φ:PH}{p q x n m k j:Nat}{u r:Nat->Rat}
theorem B8 (hp:∀w v,Φ p w v->am 4 44 (Df u k) 0 w v) (hq:∀w v,Φ q w v->Rw 4 (Df u k) n w v) (hn:n<=1000000) (hx:Φ x=am 4 44 (Df u k) n):ai Φ Tryz.prog ⟨0,[.fact p,.fact q],[oS x],.loose [] j 0 (cU 24 24)⟩:=by
 obtain ⟨i0,hi,hz0,hz1,hz2⟩:=info_parts mu
 exact ow (F:=fun i w v=>ah w v (u i) k) (G:=fun i w v=>ah w v (u i) k) (F':=fun i w v=>ah w v (u i) k) (n:=0) (m:=n) Tryz.underlying24 hi hz0 hz1 hz2 rfl (by omega) (by omega) mv (fun _ _ _ _ g h=>ah.kp h g) hp hq (fun i w v hi=>absurd hi (by omega)) (fun i w v _ h=>by rw [Nat.zero_add];exact h) (fun i w l h=>ah.dm h) (by omega) (by rw [hx,Nat.zero_add])
theorem B9 (hp:∀w v,Φ p w v->am 4 44 (Df u k) n w v) (hq:∀w v,Φ q w v->Rw 4 (Df r k) m w v) (hn:n+m<=1000000) (hx:Φ x=am 4 44 (Df (aW n u r) k) (n+m)):ai Φ Tryz.prog ⟨0,[.fact p,.fact q],[oS x],.loose [] j 0 (cU 24 24)⟩:=by
 obtain ⟨i0,hi,hz0,hz1,hz2⟩:=info_parts mu
 exact ow (F:=fun i w v=>ah w v (u i) k) (G:=fun i w v=>ah w v (r i) k) (F':=fun i w v=>ah w v (aW n u r i) k) (n:=n) (m:=m) Tryz.underlying24 hi hz0 hz1 hz2 rfl (by omega) (by omega) mv (fun _ _ _ _ g h=>ah.kp h g) hp hq (fun i w v hi h=>by rw [aW,if_pos hi];exact h) (fun i w v _ h=>by rw [aW,if_neg (by omega),Nat.add_sub_cancel_left];exact h) (fun i w l h=>ah.dm h) hn hx
end
def pd (c:Nat->Int) (T kx ks:Nat) (t:Rat) (u d:Int):List WP:=[fun w v=>Rw 4 (fun ι w v=>ah w v (((c ι:Int):Rat)) kx) T w v,Dw t ks,Nz T,Ni (((T:Nat):Int)-1),Rw 4 (Df (wM c T u d T) 80) T]
def Ca (c:Nat->Int) (T kx ks:Nat) (t:Rat) (u d:Int) (j:Nat):List WP:=[Ni (((T:Nat):Int)-1-((j:Nat):Int)),Rw 4 (Df (wM c T u d j) 80) j,Dw (-t) ks,fun w v=>ae w v ((-t).num) ks,fun w v=>ae w v ((-t).den:Int) ks,Dw (aD 1 1) 6,fun w v=>ae w v ((aD 1 1).num) 6,fun w v=>ae w v ((aD 1 1).den:Int) 6,Rw 4 (Df (cB u d) 80) 2,Rw 4 (Df (b8 (wM c T u d j) (cB u d) 2 j) 80) (if j=0 then 0 else j+1),Ptr 4 (Dw (((c (T-1-j):Int):Rat)) kx),Dw (((c (T-1-j):Int):Rat)) kx,fun w v=>Rw 4 (fun ι w v=>ah w v ((fun _=>((c (T-1-j):Int):Rat)) ι) 80) 1 w v,fun w v=>Rw 4 (fun ι w v=>ah w v ((aX (b8 (wM c T u d j) (cB u d) 2 j) (if j=0 then 0 else j+1) (fun _=>((c (T-1-j):Int):Rat)) 1) ι) 80) (j+1) w v,Ni ((((T:Nat):Int)-1-((j:Nat):Int))-1)]
def tN:bj:=⟨[0,1,3,4,8,9,10],[(.slot 6,.i),(.slot 5,.s)],[(.one 0,5),(.one 1,6)],[.frm 3,.closed (.one (.nl))],5,[(6,4)]⟩
def tO:List Step:=[bQ [.fact 5,.lit (.ci .i64 0)] oT (au .geq),
   .base ⟨42,[.fact 1],[⟨.agg [.s,.b,.s,.b],[(0,0,7),(0,2,8),(2,2,9)]⟩],false⟩,
   .base ⟨38,[.lit (.ci .i64 1),.lit (.ci .i64 1)],[⟨.agg [.s,.b,.s,.b],[(0,0,10),(0,2,11),(2,2,12)]⟩],false⟩,
   .base ⟨0,[.any,.fact 7,.fact 10],[oS 13],.fresh [] (gv 24 2)⟩,
   .base ⟨10,[.fact 6,.fact 13],[oS 14],false⟩,
   bQ [.fact 0,.fact 5] [oP 15] (aO 24),
   bQ [.fact 15] [oQ 16] (aS 44),
   .base ⟨0,[.any,.fact 16],[oS 17],.fresh [] (gv 24 1)⟩,
   .base ⟨123,[.fact 14,.fact 17],[oS 18],false⟩,
   bQ [.fact 5,.lit (.ci .i64 1)] [oN 19] (au .sub)]
def Cc:List Step:=[bQ [.fact 5,.lit (.ci .i64 0)] oF (au .geq)]
def Cd:List Step:=[bQ [.fact 0] [oN 2] (aI 24),
   bQ [.fact 2,.lit (.ci .i64 1)] [oN 3] (au .sub),
   .loop tN [(tO,[.frm 19,.frm 18])] Cc]
def Ce:List Out:=[oS 0,oQ 1]
theorem Cf {c:Nat->Int}{T kx ks:Nat}{t:Rat}{u d:Int} (hT:T<=6) (hkx:kx<=80) (hks:ks<=80) (kj : -t=cB u d 0) (Cg:aD 1 1=cB u d 1)
  (hB1:∀j,j<T->∀a b p,a<j->b<=2->Bd (bH (wM c T u d j) (cB u d) 2 a b p).num.natAbs 80∧Bd (bH (wM c T u d j) (cB u d) 2 a b p).den 80)
  (hN1:∀j,j<T->(if j=0∨2=0 then 0 else tl (fun i=>((b8 (wM c T u d j) (cB u d) 2 j) i).num) (j+2-1))=(if j=0 then 0 else j+1))
  (hB2:∀j,j<T->∀i,i<max (if j=0 then 0 else j+1) 1->Bd ((aX (b8 (wM c T u d j) (cB u d) 2 j) (if j=0 then 0 else j+1) (fun _=>((c (T-1-j):Int):Rat)) 1 i)).num.natAbs 80∧Bd ((aX (b8 (wM c T u d j) (cB u d) 2 j) (if j=0 then 0 else j+1) (fun _=>((c (T-1-j):Int):Rat)) 1 i)).den 80)
  (hN2:∀j,j<T->tl (fun i=>((aX (b8 (wM c T u d j) (cB u d) 2 j) (if j=0 then 0 else j+1) (fun _=>((c (T-1-j):Int):Rat)) 1 i)).num) (max (if j=0 then 0 else j+1) 1)=j+1)
  (hS:∀j i,j<T->i<j+1->(aX (b8 (wM c T u d j) (cB u d) 2 j) (if j=0 then 0 else j+1) (fun _=>((c (T-1-j):Int):Rat)) 1 i)=wM c T u d (j+1) i):ai (ph (pd c T kx ks t u d)) Tryz.prog ⟨78,[.fact 0,.fact 1],[oS 4],false⟩:=by
 skip
 exact bg Ce [oS 4] Cd Tryz.func78 (by kernel_rfl)
  (lB (a9 (F:=(fun ι w v=>ah w v (((c ι:Int):Rat)) kx)) Tryz.underlying24 ad rfl)
   (lB (cI ad (by omega) rfl (by omega) (by omega))
   (bN (counted T (fun j=>ph (pd c T kx ks t u d ++ Ca c T kx ks t u d j)) (fun _=>0) (fun j p hp=>bO (show p<(pd c T kx ks t u d).length from hp)) ⟨fun _ _ h=>h.trans (congrArg (Value.int .i64) (by omega)),fun w=>Rw.nil 4 (Df (wM c T u d 0) 80) w,trivial⟩ (fun j hj=>by
   have PY:(if j=0 then 0 else j+1)<=7:=by split <;> omega
   exact ⟨(tO,[.frm 19,.frm 18]),rfl,⟨fun _ _ h=>h.trans (congrArg (Value.int .i64) (by omega)),fun _ _ h=>Rw.to (sz:=4) (n:=j+1) (F:=fun i w v=>ah w v ((aX (b8 (wM c T u d j) (cB u d) 2 j) (if j=0 then 0 else j+1) (fun _=>((c (T-1-j):Int):Rat)) 1 i)) 80) h fun i w v hi h=>ah.eq h (hS j i hj hi),trivial⟩,(lB (tP ad)
   (lB (Ch tS rfl rfl rfl rfl)
   (lB (pf (z:=1) (y:=1) rfl rfl rfl (by decide) (by decide) (by decide) (by decide) rfl)
   (lB (jZ (sz:=4) (zc:=.agg [.nl,.cb false,.nl,.cb false]) (n:=2) (ps:=[7,10]) (F:=(Df (cB u d) 80)) Tryz.underlying24 (by kernel_rfl) (by omega) (by kernel_rfl) (by omega) (by omega) rfl (B5 (sz:=4) (F:=(Df (cB u d) 80)) (fun _ _ h=>ah.row (ah.more (ah.eq h kj) (by omega))) (fun _ _ h=>ah.row (ah.more (ah.eq h Cg) (by omega)))) rfl)
   (lB (Ci (q:=(wM c T u d j)) (r:=(cB u d)) (n:=j) (m:=2) (K:=80) ad ad rfl (by omega) (by omega) (by omega) (by omega) (by omega) (by omega) (hB1 j hj) (hN1 j hj))
   (lB (b6 (i:=(T-1-j)) (F:=(fun ι w v=>ah w v (((c ι:Int):Rat)) kx)) Tryz.underlying24 (by kernel_rfl) ad (fun _ _ h=>h.trans (congrArg (Value.int .i64) (by omega))) (by omega) rfl)
   (lB (bK (sz:=4) (F:=Dw (((c (T-1-j):Int):Rat)) kx) (by kernel_rfl) (by kernel_rfl) ad (fun _ _ _ g h=>ah.kp h g) (fun _ _ h=>ah.is h) rfl)
   (lB (jZ (sz:=4) (zc:=.agg [.nl,.cb false,.nl,.cb false]) (n:=1) (ps:=[16]) (F:=(fun ι w v=>ah w v ((fun _=>((c (T-1-j):Int):Rat)) ι) 80)) Tryz.underlying24 (by kernel_rfl) (by omega) (by kernel_rfl) (by omega) (by omega) rfl (B4 (sz:=4) (F:=(fun ι w v=>ah w v ((fun _=>((c (T-1-j):Int):Rat)) ι) 80)) (fun _ _ h=>ah.row (ah.more h (by omega)))) rfl)
   (lB (Cj (q:=(b8 (wM c T u d j) (cB u d) 2 j)) (r:=(fun _=>((c (T-1-j):Int):Rat))) (s:=(aX (b8 (wM c T u d j) (cB u d) 2 j) (if j=0 then 0 else j+1) (fun _=>((c (T-1-j):Int):Rat)) 1)) (n:=(if j=0 then 0 else j+1)) (m:=1) (K:=80) ad ad rfl (by omega) (by omega) (by omega) (by omega) (by omega) (by omega) (by omega) (fun _=>rfl) (hB2 j hj) (hN2 j hj))
   (lB (cI ad (rfl) rfl (by omega) (by omega))
   aC))))))))))⟩)
   (lB (chF ad)
   aC)
   (fun q hq w v h=>by
    simp only [tN,List.mem_cons,List.not_mem_nil,or_false] at hq
    rcases hq with rfl
    ·exact (fun h=>h) h)) aC)))
  (aK [.fact 0 (.one (.s)),.fact 1 (.agg [.s,.b,.s,.b])] ⟨Rw.Is 4 (fun ι w v=>ah w v (((c ι:Int):Rat)) kx) T,fun _ _ h=>ah.is h,trivial⟩) bh
section
variable {Φ:PH}{p q x T kx ks:Nat}{c:Nat->Int}{t:Rat}{u d:Int}
theorem tQ (hp:∀w v,Φ p w v->Rw 4 (fun i w v=>ah w v ((c i:Int):Rat) kx) T w v) (hq:∀w v,Φ q w v->ah w v t ks) (hx:Φ x=Rw 4 (Df (wM c T u d T) 80) T) (hT:T<=6) (hkx:kx<=80) (hks:ks<=80) (hd:d≠0) (hu:Bd u.natAbs 2) (_:True) (hv:Bd d.natAbs 2) (hst : -t=Rat.divInt u d) (hb:∀i,i<T->Bd (c i).natAbs 3) (hc:0<T->c (T-1)≠0):ai Φ Tryz.prog ⟨78,[.fact p,.fact q],[oS x],false⟩:=by
 have hpj:∀j,j<=6->Bd (d ^ j).natAbs 20:=fun j hj=>by
  rw [Int.natAbs_pow]
  exact (Bd.kg hv j).more (by omega)
 have hg:∀j,j<=T->0<T->∀i,Bd (gM c T u d j i).natAbs 60:=fun j hj h0 i=>by
  refine (tJ hb h0 hu hv j hj i).more ?_
  have h2:j*(2+T+1)<=6*(2+6+1):=Nat.mul_le_mul (by omega) (by omega)
  omega
 have hw:∀j,j<T->∀i,i<j+1->Bd (wM c T u d (j+1) i).num.natAbs 80∧Bd (wM c T u d (j+1) i).den 80:=fun j hj i _=>
  tK (Int.pow_ne_zero hd) ((hg (j+1) (by omega) (by omega) i).more (by omega)) ((hpj (j+1-1) (by omega)).more (by omega))
 have hmx:∀j:Nat,max (if j=0 then 0 else j+1) 1=j+1:=fun j=>by split <;> omega
 have hne:∀j,j<T->wM c T u d (j+1) j≠0:=fun j hj h=>by
  have h1:=(tF (Int.pow_ne_zero hd)).1 (congrArg Rat.num h)
  exact ml (by omega) (hc (by omega)) hd j h1
 refine bi (Cf (c:=c) (T:=T) (kx:=kx) (ks:=ks) (t:=t) (u:=u) (d:=d) hT hkx hks hst (B6 hd) ?_ (fun j hj=>BT (by omega) (hc (by omega)) hd j) (fun j hj i hi=>?_) (fun j hj=>?_) (fun j i hj hi=>o5 hd j i hi)) ⟨hp,hq,trivial⟩ ⟨⟨rfl,⟨rfl,rfl,fun _ _ h=>hx▸h⟩,trivial⟩,trivial⟩
 ·intro j hj a b p ha hb'
  have h0:(bH (wM c T u d j) (cB u d) 2 a b p)=Rat.divInt (mq (gM c T u d j) (sI u d) 2 a b p) (d ^ (j-1)*d):=BS (Int.pow_ne_zero hd) hd
  rw [h0]
  refine tK (Int.mul_ne_zero (Int.pow_ne_zero hd) hd) ((Ck (c:=6) (n:=j) (l:=2) (fun i _=>hg j (by omega) (by omega) i) (fun i _=>tI hu hv i) ha (by omega) hb' p).more (by omega)) ?_
  rw [Int.natAbs_mul]
  exact (Bd.mul (hpj (j-1) (by omega)) hv).more (by omega)
 ·rw [hmx] at hi
  rw [o5 hd j i hi]
  exact hw j hj i hi
 ·rw [hmx]
  refine mj ?_
  rw [o5 hd j j (by omega),ne_eq,Rat.num_eq_zero]
  exact hne j hj
end
def Cm (q:Nat->Rat) (z:Int) (n k l K N:Nat):List WP:=[fun w v=>Rw 4 (fun ι w v=>ah w v ((q ι)) k) n w v,fun w v=>ae w v z l,fun w v=>ae w v (1:Int) 2,Dw ((z:Int):Rat) (l+2+2),fun w v=>ae w v (((z:Int):Rat).num) (l+2+2),fun w v=>ae w v (((z:Int):Rat).den:Int) (l+2+2),fun w v=>Rw 4 (fun ι w v=>ah w v (((q ι)*((z:Int):Rat))) K) N w v]
def Cn:List Step:=[.base ⟨64,[.lit (.ci .i64 1)],[oD 2],false⟩,
   .base ⟨62,[.fact 1,.fact 2],[⟨.agg [.s,.b,.s,.b],[(0,0,3),(0,2,4),(2,2,5)]⟩],false⟩,
   .base ⟨50,[.fact 0,.fact 3],[oS 6],false⟩]
def Co:List Out:=[oS 0,oD 1]
theorem Cp {q:Nat->Rat}{z:Int}{n k l K N:Nat} (hn:n<=1000000) (hk:k<=8000) (hl:l<=7000) (hK:K<=400000) (hB:∀i,i<n->Bd (q i*((z:Int):Rat)).num.natAbs K∧Bd (q i*((z:Int):Rat)).den K) (hN:tl (fun i=>(q i*((z:Int):Rat)).num) n=N):ai (ph (Cm q z n k l K N)) Tryz.prog ⟨122,[.fact 0,.fact 1],[oS 6],false⟩:=by
 skip
 exact bg Co [oS 6] Cn Tryz.func122 (by kernel_rfl)
  (lB (ko (z:=1) rfl (by decide) (by decide) rfl)
   (lB (jg dD dD rfl rfl rfl (by omega) (mt z))
   (lB (Cq (q:=(fun i=>(q i))) (c:=((z:Int):Rat)) (n:=n) (K:=K) ad tS rfl (by omega) (by omega) (by omega) (by omega) hB hN)
   aC)))
  (aK [.fact 0 (.one (.s)),.fact 1 (.agg [.s,.b])] ⟨Rw.Is 4 (fun ι w v=>ah w v ((q ι)) k) n,fun _ _ h=>ae.is h,trivial⟩) bh
section
variable {Φ:PH}{p y x n k l K:Nat}{q:Nat->Rat}{z:Int}{X:Nat->Int}
theorem tR (hp:∀w v,Φ p w v->Rw 4 (Df q k) n w v) (hy:∀w v,Φ y w v->ae w v z l) (hx:Φ x=fun w v=>Rw 4 (fun i w v=>ah w v ((X i:Int):Rat) K) n w v) (hn:n<=1000000) (hk:k<=8000) (hl:l<=7000) (hK:K<=400000) (hX:∀i,i<n->q i*((z:Int):Rat)=((X i:Int):Rat)) (hB:∀i,i<n->Bd (X i).natAbs K) (hK1:1<=K) (ht:0<n->X (n-1)≠0):ai Φ Tryz.prog ⟨122,[.fact p,.fact y],[oS x],false⟩:=by
 refine bi (Cp (q:=q) (z:=z) (K:=K) (N:=n) hn hk hl hK (fun i hi=>?_) (pg fun h=>?_)) ⟨hp,hy,trivial⟩ ⟨⟨rfl,⟨rfl,rfl,fun w v h=>?_⟩,trivial⟩,trivial⟩
 ·rw [hX i hi]
  exact ⟨hB i hi,pi hK1⟩
 ·show (q (n-1)*((z:Int):Rat)).num≠0
  rw [hX _ (by omega)]
  exact ht h
 ·rw [hx]
  exact Rw.to (sz:=4) (n:=n) (F:=fun i w v=>ah w v (q i*((z:Int):Rat)) K) h fun i w v hi h=>ah.eq h (hX i hi)
end
def pj (q r:Nat->Rat) (dL X Y:Nat->Int) (n m k kd K:Nat):List WP:=[fun w v=>Rw 4 (fun ι w v=>ah w v ((q ι)) k) n w v,fun w v=>Rw 4 (fun ι w v=>ah w v ((r ι)) k) m w v,fun w v=>ae w v (1:Int) 2,fun w v=>am 4 44 (fun ι w v=>ah w v ((q ι)) k) 0 w v,fun w v=>am 4 44 (fun ι w v=>ah w v ((q ι)) k) n w v,fun w v=>am 4 44 (fun ι w v=>ah w v ((aW n q r ι)) k) (n+m) w v,eC (n+m),Nz (n+m),fun w v=>ae w v (dL (n+m)) kd,fun w v=>Rw 4 (fun ι w v=>ah w v (((X ι:Int):Rat)) K) n w v,Rw 2 (Nf X K) n,fun w v=>Rw 4 (fun ι w v=>ah w v (((Y ι:Int):Rat)) K) m w v,Rw 2 (Nf Y K) m,Nw (dL (n+m)) kd]
def Cr (q r:Nat->Rat) (dL:Nat->Int) (n k kd:Nat) (j:Nat):List WP:=[Nz j,fun w v=>ae w v (dL j) kd,At 4,Ptr 4 (Dw ((aW n q r j)) k),fun w v=>Ptr 2 (fun w v=>ae w v (((aW n q r j)).den:Int) k) w v,fun w v=>ae w v (((aW n q r j)).den:Int) k,fun w v=>ae w v ((dL j)*(((aW n q r j)).den:Int)) (kd+k),At 4,Ptr 4 (Dw ((aW n q r j)) k),fun w v=>Ptr 2 (fun w v=>ae w v (((aW n q r j)).den:Int) k) w v,fun w v=>ae w v (((aW n q r j)).den:Int) k,fun w v=>ae w v (Int.gcd (dL j) (((aW n q r j)).den:Int):Int) (kd+k),fun w v=>ae w v (dL (j+1)) (kd+k),Nz (j+1)]
def tT:bj:=⟨[0,1,4,5,6,8,9,10,11,12,13,14],[(.slot 15,.i),(.cell 3 0,.s),(.cell 3 1,.b)],[(.one 0,14),(.agg [1,2],15)],[.closed (.one (.ci .i64 0)),.frm 2],14,[(15,8)]⟩
def tU:List Step:=[bQ [.fact 14,.fact 7] oT (au .lss),
   .base ⟨0,[.fact 5,.fact 14],[oP 17],.joint [1] 16 (aO 24)⟩,
   .base ⟨0,[.fact 17],[oP 18],.gz [1] (fC 44 1)⟩,
   .base ⟨0,[.fact 18],[oD 19],.ig [1] (aS 42)⟩,
   .base ⟨69,[.fact 15,.fact 19],[oD 20],false⟩,
   .base ⟨0,[.fact 5,.fact 14],[oP 22],.joint [1] 21 (aO 24)⟩,
   .base ⟨0,[.fact 22],[oP 23],.gz [1] (fC 44 1)⟩,
   .base ⟨0,[.fact 23],[oD 24],.ig [1] (aS 42)⟩,
   .base ⟨70,[.fact 15,.fact 24],[oD 25],false⟩,
   .base ⟨68,[.fact 20,.fact 25],[oD 26],false⟩,
   bQ [.fact 14,.lit (.ci .i64 1)] [oN 27] (au .add)]
def Cs:List Step:=[bQ [.fact 14,.fact 7] oF (au .lss)]
def Ct:List Step:=[.base ⟨64,[.lit (.ci .i64 1)],[oD 2],false⟩,
   .derive (.one (.nl)) (.one (.lit (.nl))) [] 3,
   .base ⟨0,[.fact 3,.fact 0],[oS 4],.loose [] 1 0 (cU 24 24)⟩,
   .base ⟨0,[.fact 4,.fact 1],[oS 5],.loose [] 1 0 (cU 24 24)⟩,
   .freed (.one (.s 8 0)) 5 6,
   bQ [.fact 6] [oN 7] (aI 24),
   .loop tT [(tU,[.frm 27,.frm 26])] Cs,
   .base ⟨122,[.fact 0,.fact 8],[oS 9],false⟩,
   .base ⟨11,[.fact 9],[oS 10],false⟩,
   .base ⟨122,[.fact 1,.fact 8],[oS 11],false⟩,
   .base ⟨11,[.fact 11],[oS 12],false⟩,
   .base ⟨54,[.fact 8],[oI 13],false⟩]
def Cu:List Out:=[oS 0,oS 1]
theorem Cv {q r:Nat->Rat}{dL X Y:Nat->Int}{n m k kd K:Nat} (hn:n<=1000) (hm:m<=1000) (hk:k<=1000) (hkd:kd<=1000) (hK:K<=400000) (hd0:1=dL 0) (Cw:Bd (dL 0).natAbs kd) (hdL:∀j,j<n+m->(Int.gcd (dL j) ((aW n q r j).den:Int):Int)≠0∧(Int.gcd (dL j) ((aW n q r j).den:Int):Int)∣dL j*((aW n q r j).den:Int)∧dL j*((aW n q r j).den:Int) / (Int.gcd (dL j) ((aW n q r j).den:Int):Int)=dL (j+1)∧Bd (dL (j+1)).natAbs kd) (hX:∀i,i<n->q i*((dL (n+m):Int):Rat)=((X i:Int):Rat)) (hY:∀i,i<m->r i*((dL (n+m):Int):Rat)=((Y i:Int):Rat)) (hBX:∀i,i<n->Bd (X i).natAbs K) (hBY:∀i,i<m->Bd (Y i).natAbs K) (hK1:1<=K) (htX:0<n->X (n-1)≠0) (htY:0<m->Y (m-1)≠0):ai (ph (pj q r dL X Y n m k kd K)) Tryz.prog ⟨77,[.fact 0,.fact 1],[⟨.agg [.s,.s,.s,.s,.b,.s],[(2,1,10),(3,1,12),(4,2,13)]⟩],false⟩:=by
 skip
 exact bg Cu [⟨.agg [.s,.s,.s,.s,.b,.s],[(2,1,10),(3,1,12),(4,2,13)]⟩] Ct Tryz.func77 (by kernel_rfl)
  (lB (ko (z:=1) rfl (by decide) (by decide) rfl)
   (eD (B7 (e:=44) (F:=(fun ι w v=>ah w v ((q ι)) k)) rfl)
   (lB (B8 ad ad (by omega) rfl)
   (lB (B9 ad ad (by omega) rfl)
   (j8 (j9 (e:=44) (sz:=4) (n:=(n+m)) (F:=(fun ι w v=>ah w v ((aW n q r ι)) k)) ad rfl)
   (lB (ke (n:=(n+m)) Tryz.underlying24 ad rfl)
   (bN (counted (n+m) (fun j=>ph (pj q r dL X Y n m k kd K ++ Cr q r dL n k kd j)) (fun _=>0) (fun j p hp=>bO (show p<(pj q r dL X Y n m k kd K).length from hp)) ⟨fun _=>rfl,fun _ _ h=>ae.fD (ae.dP h hd0) Cw,trivial⟩ (fun j hj=>by
   skip
   exact ⟨(tU,[.frm 27,.frm 26]),rfl,⟨ad,fun _ _ h=>ae.fD h (hdL j hj).2.2.2,trivial⟩,(lB (cA ad ad)
   (lB (dY (i:=j) (sz:=4) (n:=(n+m)) (F:=(fun ι w v=>ah w v ((aW n q r ι)) k)) Tryz.underlying24 (by kernel_rfl) (fun _ _ h=>am.arr h) ad (by omega) rfl rfl)
   (lB (gA (off:=2) (len:=2) (sz:=4) (F:=Dw ((aW n q r j)) k) (G:=fun w v=>ae w v (((aW n q r j)).den:Int) k) (by kernel_rfl) ad (by omega) (fun _ _ h=>ah.snd' h) rfl)
   (lB (oW (sz:=2) (F:=fun w v=>ae w v (((aW n q r j)).den:Int) k) (by kernel_rfl) (by kernel_rfl) ad (fun _ _ _ g h=>ae.kp h g) (fun _ _ h=>ae.is h) rfl)
   (lB (jh dD dD rfl (by omega) rfl)
   (lB (dY (i:=j) (sz:=4) (n:=(n+m)) (F:=(fun ι w v=>ah w v ((aW n q r ι)) k)) Tryz.underlying24 (by kernel_rfl) (fun _ _ h=>am.arr h) ad (by omega) rfl rfl)
   (lB (gA (off:=2) (len:=2) (sz:=4) (F:=Dw ((aW n q r j)) k) (G:=fun w v=>ae w v (((aW n q r j)).den:Int) k) (by kernel_rfl) ad (by omega) (fun _ _ h=>ah.snd' h) rfl)
   (lB (oW (sz:=2) (F:=fun w v=>ae w v (((aW n q r j)).den:Int) k) (by kernel_rfl) (by kernel_rfl) ad (fun _ _ _ g h=>ae.kp h g) (fun _ _ h=>ae.is h) rfl)
   (lB (kA (kd+k) dD dD rfl (by omega) (by omega) (by omega) rfl)
   (lB (fW dD dD rfl (by omega) ((hdL j hj).1) ((hdL j hj).2.1) ((hdL j hj).2.2.1))
   (lB (cO ad (by omega) rfl (by omega) (by omega))
   aC)))))))))))⟩)
   (lB (tlF ad ad)
   aC)
   (fun q hq w v h=>by
    simp only [tT,List.mem_cons,List.not_mem_nil,or_false] at hq
    rcases hq with rfl
    ·exact (fun h=>h) h)) (lB (tR (q:=(fun ι=>(q ι))) (z:=(dL (n+m))) (n:=n) (X:=X) (K:=K) ad dD rfl (by omega) (by omega) (by omega) (by omega) hX hBX hK1 htX)
   (lB (tV (z:=X) (n:=n) ad rfl (by omega) (by omega))
   (lB (tR (q:=(fun ι=>(r ι))) (z:=(dL (n+m))) (n:=m) (X:=Y) (K:=K) ad dD rfl (by omega) (by omega) (by omega) (by omega) hY hBY hK1 htY)
   (lB (tV (z:=Y) (n:=m) ad rfl (by omega) (by omega))
   (lB (tTo dD rfl (by omega) rfl)
   aC))))))))))))
  (aK [.fact 0 (.one (.s)),.fact 1 (.one (.s))] ⟨Rw.Is 4 (fun ι w v=>ah w v ((q ι)) k) n,Rw.Is 4 (fun ι w v=>ah w v ((r ι)) k) m,trivial⟩) bh
theorem Cx {q:Nat->Rat}{kd j N:Nat} (hj:j<N) (hb:Bd (dnL q N) kd):(Int.gcd (dnL q j:Int) ((q j).den:Int):Int)≠0∧(Int.gcd (dnL q j:Int) ((q j).den:Int):Int)∣(dnL q j:Int)*((q j).den:Int)∧(dnL q j:Int)*((q j).den:Int) / (Int.gcd (dnL q j:Int) ((q j).den:Int):Int)=(dnL q (j+1):Int)∧Bd (dnL q (j+1):Int).natAbs kd:=by
 rw [show (Int.gcd (dnL q j:Int) ((q j).den:Int))=Nat.gcd (dnL q j) (q j).den from rfl,<- Int.natCast_mul,<- Int.natCast_ediv]
 refine ⟨?_,Int.natCast_dvd_natCast.2 (Nat.dvd_trans (Nat.gcd_dvd_left _ _) (Nat.dvd_mul_right _ _)),rfl,?_⟩
 ·have:=Nat.gcd_pos_of_pos_left (q j).den (kh q j)
  omega
 ·rw [Int.natAbs_natCast]
  exact hb.le (Nat.le_of_dvd (kh q N) (ms fun i hi=>jf (by omega)))
section
variable {Φ:PH}{p y p0 p1 p2 n m k kd K:Nat}{q r:Nat->Rat}
theorem Cy (hp:∀w v,Φ p w v->Rw 4 (Df q k) n w v) (hy:∀w v,Φ y w v->Rw 4 (Df r k) m w v) (h0:Φ p0=fun w v=>Rw 2 (fun i w v=>ak w v (cuX q (dnL (aW n q r) (n+m)) i) K) n w v) (h1:Φ p1=fun w v=>Rw 2 (fun i w v=>ak w v (cuX r (dnL (aW n q r) (n+m)) i) K) m w v) (h2:Φ p2=Nw ((dnL (aW n q r) (n+m):Nat):Int) kd)
  (hn:n<=1000) (hm:m<=1000) (hk:k<=1000) (hkd:kd<=1000) (hK:K<=400000) (hK1:1<=K) (hb:Bd (dnL (aW n q r) (n+m)) kd) (hBX:∀i,i<n->Bd (cuX q (dnL (aW n q r) (n+m)) i).natAbs K) (hBY:∀i,i<m->Bd (cuX r (dnL (aW n q r) (n+m)) i).natAbs K) (hX0:0<n->cuX q (dnL (aW n q r) (n+m)) (n-1)≠0) (hY0:0<m->cuX r (dnL (aW n q r) (n+m)) (m-1)≠0) :
  ai Φ Tryz.prog ⟨77,[.fact p,.fact y],[⟨.agg [.s,.s,.s,.s,.b,.s],[(2,1,p0),(3,1,p1),(4,2,p2)]⟩],false⟩:=by
 have hq:∀i,i<n->(q i).den∣dnL (aW n q r) (n+m):=fun i hi=>by
  have:=jf (q:=aW n q r) (n:=n+m) (i:=i) (by omega)
  rwa [aW,if_pos hi] at this
 have hr:∀i,i<m->(r i).den∣dnL (aW n q r) (n+m):=fun i hi=>by
  have:=jf (q:=aW n q r) (n:=n+m) (i:=n+i) (by omega)
  rwa [aW,if_neg (by omega),Nat.add_sub_cancel_left] at this
 exact bi (Cv (q:=q) (r:=r) (dL:=fun j=>((dnL (aW n q r) j:Nat):Int)) (X:=cuX q (dnL (aW n q r) (n+m))) (Y:=cuX r (dnL (aW n q r) (n+m))) (k:=k) (kd:=kd) (K:=K) hn hm hk hkd hK rfl (by
   rw [Int.natAbs_natCast]
   exact hb.le (kh _ _)) (fun j hj=>Cx hj hb) (fun i hi=>mr (hq i hi)) (fun i hi=>mr (hr i hi)) hBX hBY hK1 hX0 hY0) ⟨hp,hy,trivial⟩ ⟨⟨rfl,⟨rfl,rfl,fun _ _ h=>h0▸h⟩,⟨rfl,rfl,fun _ _ h=>h1▸h⟩,⟨rfl,rfl,fun _ _ h=>h2▸h⟩,trivial⟩,trivial⟩
end
def tW (x y:Nat->Int) (n m k ks kd K:Nat) (t:Rat) (u d:Int) (Lx Ly:List Int):List WP:=[Rw 2 (If x k) n,Rw 2 (If y k) m,Dw t ks,fun w v=>Rw 4 (fun ι w v=>ah w v ((((an Lx) ι:Int):Rat)) (k+2+2)) Lx.length w v,Rw 4 (Df (qB Lx u d) 80) Lx.length,fun w v=>Rw 4 (fun ι w v=>ah w v ((((an Ly) ι:Int):Rat)) (k+2+2)) Ly.length w v,Rw 4 (Df (qB Ly u d) 80) Ly.length,Rw 2 (Nf (cuX (qB Lx u d) (dB Lx Ly u d)) K) Lx.length,Rw 2 (Nf (cuX (qB Ly u d) (dB Lx Ly u d)) K) Ly.length,Nw (((dB Lx Ly u d):Nat):Int) kd]
def CA:List Step:=[.base ⟨18,[.fact 0],[oS 3],false⟩,
   .base ⟨78,[.fact 3,.fact 2],[oS 4],false⟩,
   .base ⟨18,[.fact 1],[oS 5],false⟩,
   .base ⟨78,[.fact 5,.fact 2],[oS 6],false⟩,
   .base ⟨77,[.fact 4,.fact 6],[⟨.agg [.s,.s,.s,.s,.b,.s],[(2,1,7),(3,1,8),(4,2,9)]⟩],false⟩]
def CB:List Out:=[oS 0,oS 1,oQ 2]
theorem CC {x y:Nat->Int}{n m k ks kd K:Nat}{t:Rat}{u d:Int}{Lx Ly:List Int} (hn:n<=1000000) (hm:m<=1000000) (hk:k<=3) (hks:ks<=80) (hLx:aP (mk n x)=Lx) (hLy:aP (mk m y)=Ly) (hx6:Lx.length<=6) (hy6:Ly.length<=6) (hd:d≠0) (hu:Bd u.natAbs 2) (hbu:True) (hbd:Bd d.natAbs 2) (hst : -t=Rat.divInt u d) (hkd:kd<=1000) (hK:K<=400000) (hK1:1<=K) (hbx:∀i,i<Lx.length->Bd (an Lx i).natAbs 3) (hby:∀i,i<Ly.length->Bd (an Ly i).natAbs 3) (htx:0<Lx.length->an Lx (Lx.length-1)≠0) (hty:0<Ly.length->an Ly (Ly.length-1)≠0) (hDb:Bd (dB Lx Ly u d) kd) (hBX:∀i,i<Lx.length->Bd (cuX (qB Lx u d) (dB Lx Ly u d) i).natAbs K) (hBY:∀i,i<Ly.length->Bd (cuX (qB Ly u d) (dB Lx Ly u d) i).natAbs K) (hX0:0<Lx.length->cuX (qB Lx u d) (dB Lx Ly u d) (Lx.length-1)≠0) (hY0:0<Ly.length->cuX (qB Ly u d) (dB Lx Ly u d) (Ly.length-1)≠0):ai (ph (tW x y n m k ks kd K t u d Lx Ly)) Tryz.prog ⟨28,[.fact 0,.fact 1,.fact 2],[⟨.agg [.s,.s,.s,.s,.b,.s],[(2,1,7),(3,1,8),(4,2,9)]⟩],false⟩:=by
 skip
 exact bg CB [⟨.agg [.s,.s,.s,.s,.b,.s],[(2,1,7),(3,1,8),(4,2,9)]⟩] CA Tryz.func28 (by kernel_rfl)
  (lB (tY (z:=x) (n:=n) (L:=Lx) (Rw.To 2 (If x k) n (fun _ _ _ _ h=>h)) rfl (by omega) (by omega) hLx)
   (lB (tQ (c:=an Lx) (T:=Lx.length) (kx:=(k+2+2)) (ks:=ks) (u:=u) (d:=d) ad tS rfl (by omega) (by omega) (by omega) hd hu hbu hbd hst hbx htx)
   (lB (tY (z:=y) (n:=m) (L:=Ly) (Rw.To 2 (If y k) m (fun _ _ _ _ h=>h)) rfl (by omega) (by omega) hLy)
   (lB (tQ (c:=an Ly) (T:=Ly.length) (kx:=(k+2+2)) (ks:=ks) (u:=u) (d:=d) ad tS rfl (by omega) (by omega) (by omega) hd hu hbu hbd hst hby hty)
   (lB (Cy (q:=(qB Lx u d)) (r:=(qB Ly u d)) (n:=Lx.length) (m:=Ly.length) (k:=80) (kd:=kd) (K:=K) ad ad rfl rfl rfl (by omega) (by omega) (by omega) (by omega) (by omega) hK1 hDb hBX hBY hX0 hY0)
   aC)))))
  (aK [.fact 0 (.one (.s)),.fact 1 (.one (.s)),.fact 2 (.agg [.s,.b,.s,.b])] ⟨Rw.Is 2 (If x k) n,Rw.Is 2 (If y k) m,fun _ _ h=>ah.is h,trivial⟩) bh
section
variable {Φ:PH}{p q r p0 p1 p2 n m k ks kd K:Nat}{x y:Nat->Int}{t:Rat}{u d:Int}{Lx Ly:List Int}
end
end Go.Proofs.YthmcngjhkmpneaaGreat.Sym
