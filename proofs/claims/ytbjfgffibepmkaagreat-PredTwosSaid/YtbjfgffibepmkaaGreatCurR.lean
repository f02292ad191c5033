/- A polynomial moved by a -/
import Derived.Test.YtbjfgffibepmkaaGreatPolJ
import Derived.Test.YtbjfgffibepmkaaGreatRMul
import Derived.Test.YtbjfgffibepmkaaGreatCurP
namespace Go.Proofs.YtbjfgffibepmkaaGreat.Sym
open Go.RowKit
variable {q:Nat->Rat}{N k n:Nat}
def sI (u d:Int) (i:Nat):Int:=if i=0 then u else d
def gM (c:Nat->Int) (T:Nat) (u d:Int):Nat->Nat->Int
 | 0,_=>0
 | j+1,i=>dq (gM c T u d j) (sI u d) 2 j i+(if i=0 then c (T-1-j)*d ^ j else 0)
section
variable {c:Nat->Int}{T:Nat}{u d:Int}
theorem xY (h0:0<T):∀j,gM c T u d (j+1) j=c (T-1)*d ^ j
 | 0=>by simp [gM,dq]
 | j+1=>by
  rw [gM,if_neg (by omega)]
  have:=xZ (z:=gM c T u d (j+1)) (y:=sI u d) (l:=2) (m:=j) (by omega)
  rw [show j+2-1=j+1 by omega] at this
  rw [this,xY h0 j,show (2:Nat)-1=1 from rfl,show sI u d 1=d from rfl,Int.pow_succ,Int.mul_assoc];omega
theorem yc {f:Nat->Int} (h:f n≠0):tl f (n+1)=n+1:=by
 unfold tl
 exact if_neg h
theorem yd (h0:0<T) (hc:c (T-1)≠0) (hd:d≠0) (j:Nat):gM c T u d (j+1) j≠0:=by
 rw [xY h0]
 exact Int.mul_ne_zero hc (Int.pow_ne_zero hd)
theorem Ix (h0:0<T) (hc:c (T-1)≠0) (hd:d≠0) (j p:Nat):dq (gM c T u d j) (sI u d) 2 j p=conv (upto j (gM c T u d j)) (upto 2 (sI u d)) p:=by
 have h1:tl (sI u d) 2=2:=yc hd
 have h2:tl (gM c T u d j) j=j:=by
  cases j with
  | zero=>rfl
  | succ j=>exact yc (yd h0 hc hd j)
 have:=ye (gM c T u d j) (sI u d) j 2 p
 rw [h1,h2] at this
 exact this
theorem yf (h0:0<T) (hc:c (T-1)≠0) (hd:d≠0) (t:Rat):∀j,j<=T->ev t j (gM c T u d j)=(d:Rat) ^ (j-1)*ev (t+u / d) j (fun k=>c (T-j+k))
 | 0,_=>by simp only [ev];grind
 | j+1,hj=>by
  have hd':(d:Rat)≠0:=by exact_mod_cast hd
  have ih:=yf h0 hc hd t j (by omega)
  have e1:ev t (j+1) (gM c T u d (j+1))=ev t (j+1) (fun i=>dq (gM c T u d j) (sI u d) 2 j i)+ev t (j+1) (fun i=>if i=0 then c (T-1-j)*d ^ j else 0):=kF (j+1) _ _
  have e2:ev t (j+1) (fun i=>dq (gM c T u d j) (sI u d) 2 j i)=ev t j (gM c T u d j)*(u+t*d):=by
   rw [iA (y:=conv (upto j (gM c T u d j)) (upto 2 (sI u d))) fun i _=>Ix h0 hc hd j i]
   rw [<- ji (x:=t) (n:=j+1) (m:=j+2) (z:=conv (upto j (gM c T u d j)) (upto 2 (sI u d))) (fun i hi=>yg (a:=j) (b:=2) (fun i hi=>jF hi) (fun i hi=>jF hi)) (by omega)]
   rw [sM (b:=2) (fun i hi=>jF hi) (a:=j) (fun i hi=>jF hi),kG,kG]
   congr 1
   simp only [ev,sI]
   simp
   try grind
  have e3:ev t (j+1) (fun i=>if i=0 then c (T-1-j)*d ^ j else 0)=(c (T-1-j):Rat)*(d:Rat) ^ j:=by
   simp only [ev]
   rw [pM (z:=fun i=>if i+1=0 then c (T-1-j)*d ^ j else 0) fun i _=>if_neg (by omega)]
   rw [if_pos trivial]
   push_cast
   grind
  have e4:ev (t+u / d) (j+1) (fun k=>c (T-(j+1)+k))=(c (T-1-j):Rat)+(t+u / d)*ev (t+u / d) j (fun k=>c (T-j+k)):=by
   simp only [ev]
   rw [show T-(j+1)+0=T-1-j by omega,iA (z:=fun i=>c (T-(j+1)+(i+1))) (y:=fun k=>c (T-j+k)) fun i _=>congrArg c (by omega)]
  rw [e1,e2,e3,ih,e4,Nat.add_sub_cancel]
  cases j with
  | zero=>
   simp only [ev,Nat.zero_sub,Rat.pow_zero]
   grind
  | succ j=>
   generalize ev (t+u / d) (j+1) (fun k=>c (T-(j+1)+k))=E
   rw [Nat.add_sub_cancel,Rat.pow_succ]
   have h3:(d:Rat)*(t+u / d)=u+t*d:=by
    rw [Rat.mul_add,Rat.mul_comm (d:Rat) (u / d),Rat.div_mul_cancel hd'];grind
   grind
theorem yh (hT:T=tl c n) (h0:0<T) (hd:d≠0) (i:Nat) (hi:i<T):gM c T u d T i=ae (mvL c n u d) i:=by
 have hc:c (T-1)≠0:=hT▸gE c n (hT▸h0)
 refine yi (n:=T) (fun t=>?_) i hi
 have h1:=Iy hd t c n u
 rw [pN,<- hT] at h1
 rw [h1,yf h0 hc hd t T (Nat.le_refl _),<- kG (t+u / d) c n,<- yj,<- hT,iA (y:=c) fun i hi=>congrArg c (by omega)]
def wM (c:Nat->Int) (T:Nat) (u d:Int) (j i:Nat):Rat:=Rat.divInt (gM c T u d j i) (d ^ (j-1))
theorem Iz (hd:d≠0) (i:Nat):wM c T u d T i*(d:Rat) ^ (T-1)=((gM c T u d T i:Int):Rat):=by
 have h':(d:Rat) ^ (T-1)≠0:=yk (by exact_mod_cast hd) _
 rw [wM,Rat.divInt_eq_div]
 push_cast
 grind
end
def bc (n:Nat) (q r:Nat->Rat) (i:Nat):Rat:=if i<n then q i else r (i-n)
def dd (n:Nat) (z y:Nat->Int) (i:Nat):Int:=if i<n then z i else y (i-n)
def cuX (q:Nat->Rat) (L:Nat) (i:Nat):Int:=(q i).num*((L / (q i).den:Nat):Int)
theorem pO {L i:Nat} (h:(q i).den∣L):q i*((L:Int):Rat)=((cuX q L i:Int):Rat):=by
 obtain ⟨e,rfl⟩:=h
 have h0:0<(q i).den:=(q i).den_pos
 have:=IA (q i)
 rw [cuX,Nat.mul_div_cancel_left e h0]
 push_cast at this ⊢
 rw [<- Rat.mul_assoc,this]
theorem IB {a b:Int} (h:((a:Int):Rat)=((b:Int):Rat)):a=b:=by exact_mod_cast h
theorem ym {R:Nat->Int}{C:Int} (hC:0<C) (hR:∀i,i<n->q i*((C:Int):Rat)=((R i:Int):Rat)) :
  ((dnL q n:Nat):Int)*(bp (dd n R fun _=>C) (n+1):Int)=C∧∀i,i<n->R i=cuX q (dnL q n) i*(bp (dd n R fun _=>C) (n+1):Int):=by
 have h1:dnL q n∣C.natAbs:=pP fun i hi=>yn (hR i hi)
 obtain ⟨E,hE⟩:=h1
 have hL:=lU q n
 have hCE:C=((dnL q n:Nat):Int)*(E:Int):=by
  rw [show C=((C.natAbs:Nat):Int) by omega,hE,Int.natCast_mul]
 have hE0:0<E:=by
  rcases Nat.eq_zero_or_pos E with h | h
  ·rw [h] at hCE;omega
  ·exact h
 have hX:∀i,i<n->R i=cuX q (dnL q n) i*(E:Int):=fun i hi=>by
  refine IB ?_
  rw [<- hR i hi,hCE,Rat.intCast_mul,Rat.intCast_mul,<- Rat.mul_assoc,pO (lV hi)]
 have hz:∀i,i<n+1->dd n R (fun _=>C) i=dd n (cuX q (dnL q n)) (fun _=>((dnL q n:Nat):Int)) i*(E:Int):=fun i _=>by
  unfold dd
  split
  ·exact hX i ‹_›
  ·exact hCE
 have hg:bp (dd n R fun _=>C) (n+1)=bp (dd n (cuX q (dnL q n)) fun _=>((dnL q n:Nat):Int)) (n+1)*E:=by
  rw [pQ hz,sN];rfl
 have h1:bp (dd n (cuX q (dnL q n)) fun _=>((dnL q n:Nat):Int)) (n+1)=1:=by
  generalize hh:bp (dd n (cuX q (dnL q n)) fun _=>((dnL q n:Nat):Int)) (n+1)=h
  have d1:∀i,i<n->((h:Nat):Int)∣cuX q (dnL q n) i:=fun i hi=>by
   have:=no (z:=dd n (cuX q (dnL q n)) fun _=>((dnL q n:Nat):Int)) (n:=n+1) i
   rw [hh,dd,if_pos hi] at this
   exact this
  have d2:h∣dnL q n:=by
   have:=no (z:=dd n (cuX q (dnL q n)) fun _=>((dnL q n:Nat):Int)) (n:=n+1) n
   rw [hh,dd,if_neg (by omega)] at this
   exact Int.ofNat_dvd.1 this
  obtain ⟨L',hL'⟩:=d2
  have h0:0<h:=by
   rcases Nat.eq_zero_or_pos h with e | e
   ·rw [e,Nat.zero_mul] at hL';omega
   ·exact e
  have hL0:0<L':=by
   rcases Nat.eq_zero_or_pos L' with e | e
   ·rw [e,Nat.mul_zero] at hL';omega
   ·exact e
  have h3:dnL q n∣L':=pP fun i hi=>by
   obtain ⟨x,hx⟩:=d1 i hi
   have h4:=pO (lV (q:=q) hi)
   have:q i*(((L':Int)):Rat)=((x:Int):Rat):=by
    have hne:(((h:Nat):Int):Rat)≠0:=fun e=>by
     have:((h:Nat):Int)=0:=by exact_mod_cast e
     omega
    rw [hx,hL',Int.natCast_mul,Rat.intCast_mul,Rat.intCast_mul] at h4
    have h5:=Rat.mul_inv_cancel _ hne
    generalize (((h:Nat):Int):Rat)⁻¹=w at h5
    have h6:=congrArg (fun t=>t*w) h4
    grind
   exact yn this
  have h4:=Nat.le_of_dvd hL0 h3
  rw [hL'] at h4
  rcases Nat.lt_or_ge h 2 with e | e
  ·omega
  ·have:=Nat.mul_le_mul_right L' e
   omega
 rw [h1,Nat.one_mul] at hg
 exact ⟨by rw [hg];exact hCE.symm,fun i hi=>by rw [hg];exact hX i hi⟩
theorem af.row {w:World}{v:Value}{q:Rat} (h:af w v q k):v.cells.size=4∧af w (.agg v.cells) q k:=by
 obtain ⟨p,n,c,b,p',n',c',b',rfl,h2⟩:=h
 exact ⟨rfl,p,n,c,b,p',n',c',b',rfl,h2⟩
section
variable {Φ:PH}{a b sz:Nat}{F:PH}
theorem yo (h:∀w v,Φ a w v->v.cells.size=sz∧F 0 w (.agg v.cells)):∀(i p:Nat),[a][i]?=some p->∀w v,Φ p w v->v.cells.size=sz∧F i w (.agg v.cells)
 | 0,p,hp=>by
  simp only [List.getElem?_cons_zero,Option.some.injEq] at hp
  subst hp;exact h
 | i+1,p,hp=>by simp at hp
theorem sO (h:∀w v,Φ a w v->v.cells.size=sz∧F 0 w (.agg v.cells)) (h':∀w v,Φ b w v->v.cells.size=sz∧F 1 w (.agg v.cells)):∀(i p:Nat),[a,b][i]?=some p->∀w v,Φ p w v->v.cells.size=sz∧F i w (.agg v.cells)
 | 0,p,hp=>by
  simp only [List.getElem?_cons_zero,Option.some.injEq] at hp
  subst hp;exact h
 | 1,p,hp=>by
  simp only [List.getElem?_cons_succ,List.getElem?_cons_zero,Option.some.injEq] at hp
  subst hp;exact h'
 | i+2,p,hp=>by simp at hp
end
abbrev qB (L:List Int) (u d:Int):Nat->Rat:=wM (ae L) L.length u d L.length
abbrev dB (Lx Ly:List Int) (u d:Int):Nat:=dnL (bc Lx.length (qB Lx u d) (qB Ly u d)) (Lx.length+Ly.length)
theorem IC {Φ:PH}{x:Nat}{e:TypeId}{F:PH} (hx:Φ x=aC 4 e F 0) (X:Nat->Prop) (w:World) (v:Value) (h:(Arg.parts (.one (.lit .nl)) []).ok Φ X w v):(Arg.fact x).ok Φ X w v:=fun w1 _=>by
 rw [hx]
 have e:v = .slice none 0 0:=h.1.1
 rw [e]
 exact aC.nil _ _ _ _
section
variable {Φ:PH}{p q x m j:Nat}{u r:Nat->Rat}
theorem ID (hp:∀w v,Φ p w v->aC 4 63 (Df u k) 0 w v) (hq:∀w v,Φ q w v->Rw 4 (Df u k) n w v) (hx:Φ x=aC 4 63 (Df u k) n) (hn:n<=1000000:=by omega):aj Φ Tryz.prog ⟨0,[.fact p,.fact q],[oS x],.loose [] j 0 (bO 32 32)⟩:=by
 obtain ⟨i0,hi,hz0,hz1,hz2⟩:=info_parts pR
 exact sm (F:=fun i w v=>af w v (u i) k) (G:=fun i w v=>af w v (u i) k) (F':=fun i w v=>af w v (u i) k) (n:=0) (m:=n) Tryz.underlying32 hi hz0 hz1 hz2 rfl pS (fun _ _ _ _ g h=>af.kp h g) hp hq (fun i w v hi=>absurd hi (by omega)) (fun i w v _ h=>by rw [Nat.zero_add];exact h) (fun i w l h=>af.eO h) (by omega) (by rw [hx,Nat.zero_add])
theorem IE (hp:∀w v,Φ p w v->aC 4 63 (Df u k) n w v) (hq:∀w v,Φ q w v->Rw 4 (Df r k) m w v) (hx:Φ x=aC 4 63 (Df (bc n u r) k) (n+m)) (hn:n+m<=1000000:=by omega):aj Φ Tryz.prog ⟨0,[.fact p,.fact q],[oS x],.loose [] j 0 (bO 32 32)⟩:=by
 obtain ⟨i0,hi,hz0,hz1,hz2⟩:=info_parts pR
 exact sm (F:=fun i w v=>af w v (u i) k) (G:=fun i w v=>af w v (r i) k) (F':=fun i w v=>af w v (bc n u r i) k) (n:=n) (m:=m) Tryz.underlying32 hi hz0 hz1 hz2 rfl pS (fun _ _ _ _ g h=>af.kp h g) hp hq (fun i w v hi h=>by rw [bc,if_pos hi];exact h) (fun i w v _ h=>by rw [bc,if_neg (by omega),Nat.add_sub_cancel_left];exact h) (fun i w l h=>af.eO h) hn hx
end
section
variable {Φ:PH}{p q x T kx ks:Nat}{c:Nat->Int}{t:Rat}{u d:Int}
end
def IF (q:Nat->Rat) (z:Int) (n k l K N:Nat):List WP:=[fun w v=>Rw 4 (fun ι w v=>af w v ((q ι)) k) n w v,fun w v=>ai w v z l,fun w v=>ai w v (1:Int) 2,Dw ((z:Int):Rat) (l+2+2),fun w v=>ai w v (((z:Int):Rat).num) (l+2+2),fun w v=>ai w v (((z:Int):Rat).den:Int) (l+2+2),fun w v=>Rw 4 (fun ι w v=>af w v (((q ι)*((z:Int):Rat))) K) N w v]
def IG:List Step:=[.base ⟨34,[.lit (.ci .i64 1)],[oD 2],false⟩,.base ⟨69,[1,2],[⟨.agg [.s,.b,.s,.b],[(0,0,3),(0,2,4),(2,2,5)]⟩],false⟩,.base ⟨85,[0,3],[oS 6],false⟩]
def IH:List Out:=[oS 0,oD 1]
set_option maxRecDepth 100000 in
theorem II {z:Int}{l K:Nat} (hn:n<=1000000) (hk:k<=8000) (hl:l<=7000) (hK:K<=400000) (hB:∀i,i<n->Bd (q i*((z:Int):Rat)).num.natAbs K∧Bd (q i*((z:Int):Rat)).den K) (hN:tl (fun i=>(q i*((z:Int):Rat)).num) n=N):aj (ph (IF q z n k l K N)) Tryz.prog ⟨132,[0,1],[oS 6],false⟩:=aQ IH [oS 6] IG Tryz.func132 (by kernel_rfl) (lB (jG (z:=1) rfl rfl) (lB (jH dD dD rfl rfl rfl (lW z)) (lB (lZ (q:=(fun i=>(q i))) (c:=((z:Int):Rat)) (n:=n) (K:=K) ad tS rfl hB hN) aD)))
  (aM [.fact 0 (.one (.s)),.fact 1 (.agg [.s,.b])] ⟨Rw.Is 4 (fun ι w v=>af w v ((q ι)) k) n,fun _ _ h=>ai.is h,trivial⟩) aV
section
variable {Φ:PH}{p y x l K:Nat}{z:Int}{X:Nat->Int}
theorem yp (hp:∀w v,Φ p w v->Rw 4 (Df q k) n w v) (hy:∀w v,Φ y w v->ai w v z l) (hx:Φ x=fun w v=>Rw 4 (fun i w v=>af w v ((X i:Int):Rat) K) n w v) (hX:∀i,i<n->q i*((z:Int):Rat)=((X i:Int):Rat)) (hB:∀i,i<n->Bd (X i).natAbs K) (hK1:1<=K) (ht:0<n->X (n-1)≠0) (hn:n<=1000000:=by omega) (hk:k<=8000:=by omega) (hl:l<=7000:=by omega) (hK:K<=400000:=by omega):aj Φ Tryz.prog ⟨132,[.fact p,.fact y],[oS x],false⟩:=by
 refine aT (II (q:=q) (z:=z) (K:=K) (N:=n) hn hk hl hK (fun i hi=>?_) (mc fun h=>?_)) ⟨hp,hy,trivial⟩ ⟨⟨rfl,⟨rfl,rfl,fun w v h=>?_⟩,trivial⟩,trivial⟩
 ·rw [hX i hi]
  exact ⟨hB i hi,gF hK1⟩
 ·show (q (n-1)*((z:Int):Rat)).num≠0
  rw [hX _ (by omega)]
  exact ht h
 ·rw [hx]
  exact Rw.to (sz:=4) (n:=n) (F:=fun i w v=>af w v (q i*((z:Int):Rat)) K) h fun i w v hi h=>af.eq h (hX i hi)
end
theorem IJ {kd j:Nat} (hj:j<N) (hb:Bd (dnL q N) kd):(Int.gcd (dnL q j:Int) ((q j).den:Int):Int)≠0∧(Int.gcd (dnL q j:Int) ((q j).den:Int):Int)∣(dnL q j:Int)*((q j).den:Int)∧(dnL q j:Int)*((q j).den:Int) / (Int.gcd (dnL q j:Int) ((q j).den:Int):Int)=(dnL q (j+1):Int)∧Bd (dnL q (j+1):Int).natAbs kd:=by
 rw [show (Int.gcd (dnL q j:Int) ((q j).den:Int))=Nat.gcd (dnL q j) (q j).den from rfl,<- Int.natCast_mul,<- Int.natCast_ediv]
 refine ⟨?_,Int.natCast_dvd_natCast.2 (Nat.dvd_trans (Nat.gcd_dvd_left _ _) (Nat.dvd_mul_right _ _)),rfl,?_⟩
 ·have:=Nat.gcd_pos_of_pos_left (q j).den (lU q j)
  omega
 ·rw [Int.natAbs_natCast]
  exact hb.le (Nat.le_of_dvd (lU q N) (pP fun i hi=>lV (by omega)))
section
variable {Φ:PH}{p y p0 p1 p2 m kd K:Nat}{r:Nat->Rat}
end
section
variable {Φ:PH}{p q r p0 p1 p2 m ks kd K:Nat}{x y:Nat->Int}{t:Rat}{u d:Int}{Lx Ly:List Int}
end
end Go.Proofs.YtbjfgffibepmkaaGreat.Sym
