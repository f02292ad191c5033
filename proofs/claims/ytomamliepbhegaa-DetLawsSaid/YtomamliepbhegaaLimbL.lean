/- The guess of a quotient's digit off the topmost digits: it is the digit, or one more. Numbers alone. Package limb: gu .. -/
import GoSem.Claim
import Derived.Test.YtomamliepbhegaaLimbA
import Derived.Deep.DeepCutAuto
import Derived.Test.YtomamliepbhegaaBase
namespace Go.Proofs.Ytomamliepbhegaa
open Go.RowKit
theorem CY {B E b1 b2 bl p0 p1 p2 pl q rest:Nat} (hpl:pl<E) (inv:q*b1+rest=p0*B+p1) (t:rest*B+p2<q*b2) :
  ((p0*B+p1)*B+p2)*E+pl<q*((b1*B+b2)*E+bl):=by
 have h1:(q*b1)*(B*E)+rest*(B*E)=(p0*B+p1)*(B*E):=by rw [<- Nat.add_mul,inv]
 have h2:(rest*B+p2+1)*E<=(q*b2)*E:=Nat.mul_le_mul_right E t
 grind
theorem CZ {B E b1 b2 bl p0 p1 p2 pl q rest:Nat} (hbl:bl<E) (hb1:0<b1) (hq:q<B) (inv:q*b1+rest=p0*B+p1) (t:q*b2<=rest*B+p2) :
  q*((b1*B+b2)*E+bl)<=((p0*B+p1)*B+p2)*E+pl+((b1*B+b2)*E+bl):=by
 have h1:(q*b1)*(B*E)+rest*(B*E)=(p0*B+p1)*(B*E):=by rw [<- Nat.add_mul,inv]
 have h2:(q*b2)*E<=(rest*B+p2)*E:=Nat.mul_le_mul_right E t
 have h3:q*bl<=B*E:=Nat.mul_le_mul (Nat.le_of_lt hq) (Nat.le_of_lt hbl)
 have h4:1*(B*E)<=b1*(B*E):=Nat.mul_le_mul_right _ hb1
 clear hbl hb1 hq inv t
 grind
theorem NO {B E b1 b2 bl p0 p1 p2 pl q rest:Nat} (hbl:bl<E) (hb2:b2<B) (hq:q<=B) (hr:B<=rest) (inv:q*b1+rest=p0*B+p1) :
  q*((b1*B+b2)*E+bl)<=((p0*B+p1)*B+p2)*E+pl:=by
 have h1:(q*b1)*(B*E)+rest*(B*E)=(p0*B+p1)*(B*E):=by rw [<- Nat.add_mul,inv]
 have h2:B*(B*E)<=rest*(B*E):=Nat.mul_le_mul_right _ hr
 have h3:b2*E+bl<=B*E:=by
  have:=Nat.mul_le_mul_right E (show b2+1<=B from hb2)
  rw [Nat.add_mul] at this;omega
 have h4:q*(b2*E+bl)<=B*(B*E):=Nat.mul_le_mul hq h3
 clear hbl hb2 hq hr inv h3
 grind
theorem NP {B E b1 b2 bl p0 p1 p2 pl Q:Nat} (hpl:pl<E) (hp2:p2<B) (h:Q*((b1*B+b2)*E+bl)<=((p0*B+p1)*B+p2)*E+pl) (hb1:0<b1) :
  Q<=(p0*B+p1) / b1:=by
 rw [Nat.le_div_iff_mul_le hb1]
 have h1:p2*E+pl<B*E:=by
  have:=Nat.mul_le_mul_right E (show p2+1<=B from hp2)
  rw [Nat.add_mul] at this;omega
 have h2:(Q*b1)*(B*E)<(p0*B+p1+1)*(B*E):=by
  clear hpl hp2 hb1
  grind
 have h3:=Nat.lt_of_mul_lt_mul_right h2
 omega
theorem NQ {B E b1 b2 bl p0 p1 p2 pl:Nat} (hbl:bl<E) (hb2:b2<B) (h:((p0*B+p1)*B+p2)*E+pl<((b1*B+b2)*E+bl)*B):p0<=b1:=by
 have h3:b2*E+bl<B*E:=by
  have:=Nat.mul_le_mul_right E (show b2+1<=B from hb2)
  rw [Nat.add_mul] at this;omega
 have h5:(b2*E+bl)*B<=(B*E)*B:=Nat.mul_le_mul_right B (Nat.le_of_lt h3)
 have h4:p0*(B*(B*E))<(b1+1)*(B*(B*E)):=by
  clear hbl hb2 h3
  grind
 have:=Nat.lt_of_mul_lt_mul_right h4
 omega
theorem NR {B b1 p0 p1:Nat} (h0:p0<=b1) (h1:p1<B) (h2:B<=2*b1) (hb:0<b1):(p0*B+p1) / b1<=B+1:=by
 have h3:p0*B<=b1*B:=Nat.mul_le_mul_right B h0
 have h4:(p0*B+p1) / b1<B+2:=by
  rw [Nat.div_lt_iff_lt_mul hb,Nat.add_mul,Nat.mul_comm B b1]
  omega
 omega
structure eF (B E b1 b2 bl p0 p1 p2 pl P D:Nat):Prop where
 hbl:bl<E
 hpl:pl<E
 hb1:0<b1
 KJ:b1<B
 hb2:b2<B
 hp0:p0<B
 hp1:p1<B
 hp2:p2<B
 hbig:B<=2*b1
 hd:D=(b1*B+b2)*E+bl
 hp:P=((p0*B+p1)*B+p2)*E+pl
 hlt:P<D*B
section
variable {B E b1 b2 bl p0 p1 p2 pl P D q rest:Nat}
theorem eF.lO (h:eF B E b1 b2 bl p0 p1 p2 pl P D):0<D:=by
 rcases Nat.eq_zero_or_pos D with h0 | h0
 ·have:=h.hlt;rw [h0] at this;omega
 ·exact h0
theorem eF.NS (h:eF B E b1 b2 bl p0 p1 p2 pl P D):P / D<B:=by
 rw [Nat.div_lt_iff_lt_mul h.lO,Nat.mul_comm];exact h.hlt
theorem eF.start (h:eF B E b1 b2 bl p0 p1 p2 pl P D):P / D<=(p0*B+p1) / b1∧(p0*B+p1) / b1<=B+1:=by
 constructor
 ·refine NP h.hpl h.hp2 (b2:=b2) (bl:=bl) (E:=E) (pl:=pl) ?_ h.hb1
  have:=Nat.div_mul_le_self P D
  have hd:=h.hd
  have hp:=h.hp
  rw [<- hd,<- hp]
  exact this
 ·have hd:=h.hd
  have hp:=h.hp
  have hl:=h.hlt
  rw [hd,hp] at hl
  exact NR (NQ h.hbl h.hb2 hl) h.hp1 h.hbig h.hb1
theorem eF.less (h:eF B E b1 b2 bl p0 p1 p2 pl P D) (inv:q*b1+rest=p0*B+p1) (t:B<=q∨rest*B+p2<q*b2):P / D+1<=q:=by
 rcases t with t | t
 ·have:=h.NS;omega
 ·have k:=CY (bl:=bl) h.hpl inv t
  rw [<- h.hd,<- h.hp] at k
  exact (Nat.div_lt_iff_lt_mul h.lO).2 k
theorem eF.done (h:eF B E b1 b2 bl p0 p1 p2 pl P D) (inv:q*b1+rest=p0*B+p1) (hq:q<B) (t:q*b2<=rest*B+p2):q<=P / D+1:=by
 have k:=CZ (p2:=p2) (pl:=pl) h.hbl h.hb1 hq inv t
 rw [<- h.hd,<- h.hp] at k
 cases q with
 | zero=>exact Nat.zero_le _
 | succ q=>
  have:q<=P / D:=by
   rw [Nat.le_div_iff_mul_le h.lO]
   rw [Nat.add_mul,Nat.one_mul] at k
   omega
  omega
theorem eF.grown (h:eF B E b1 b2 bl p0 p1 p2 pl P D) (inv:q*b1+rest=p0*B+p1) (hq:q<=B) (hr:B<=rest):q<=P / D:=by
 have k:=NO (p2:=p2) (pl:=pl) h.hbl h.hb2 hq hr inv
 rw [<- h.hd,<- h.hp] at k
 rw [Nat.le_div_iff_mul_le h.lO]
 exact k
end
def KW (w:World) (g:Nat) (L:List Nat):Prop:=aO w 85 g L.length (fun j=>.int .u32 (nth L j))
theorem KW.of {w:World}{g n:Nat}{L:List Nat}{c:Nat->Value} (h:aO w 85 g n c) (hn:L.length=n) (hc:∀j,j<n->c j = .int .u32 (nth L j)):KW w g L:=by
 subst hn
 exact h.congr hc
theorem KW.cell {w:World}{g:Nat}{L:List Nat} (h:KW w g L){j:Nat} (hj:j<L.length):w.cell? ⟨g,j,none⟩=some (.int .u32 (nth L j)):=aO.cell h hj
theorem KW.grown {w w':World}{g:Nat}{L:List Nat}{row:Option Nat} (h:KW w g L) (hg:w.grownBy w' row) (hne:some g≠row):KW w' g L:=aO.grown h hg hne
theorem KW.set {w:World}{g:Nat}{L:List Nat} (h:KW w g L){i x:Nat} (hi:i<L.length){v:Value} (hv:v = .int .u32 x):KW (w.setCell ⟨g,i,none⟩ v) g (L.set i x):=by
 subst hv
 refine KW.of (aO.set h i _) (by simp) fun j hj=>?_
 by_cases e:j=i
 ·subst e;rw [iq,lP _ hi]
 ·rw [upd_ne _ _ e,oc _ _ e]
theorem KW.over {w:World}{g k n:Nat}{R Z:List Nat}{N:Nat} (hN:R.length=N) (h:aO w 85 g N (lay (fun j=>.int .u32 (nth R j)) k n .u32 Z)) (hZ:Z.length=n) (hk:k+n<=N):KW w g (Go.Proofs.Ytomamliepbhegaa.over R Z k):=by
 refine KW.of h (by rw [tg (by omega),hN]) fun j hj=>?_
 by_cases h1:k<=j∧j<k+n
 ·obtain ⟨i,rfl⟩:∃i,j=k+i:=⟨j-k,by omega⟩
  rw [iu _ _ _ (by omega),NT (by omega) (by omega)]
 ·rw [dl _ _ _ (by omega),NU (by omega) (by omega)]
theorem KW.sl {w:World}{g:Nat}{L:List Nat} (h:KW w g L) (off n cap:Nat) (h1:off+n<=L.length) (h2:n<=cap) (h3:cap<=9223372036854775807):Sl w .u32 (.slice (some ⟨g,off,none⟩) n cap) ((L.drop off).take n):=by
 have hl:((L.drop off).take n).length=n:=by rw [List.length_take,List.length_drop];omega
 refine ⟨_,cap,by rw [hl],by omega,h3,.inr ⟨g,off,rfl,aO.lt h,fun j hj=>?_⟩⟩
 rw [hl] at hj
 rw [h.cell (by omega),eu _ hj,Ly]
theorem KW.lt {w:World}{g:Nat}{L:List Nat} (h:KW w g L):g<w.heap.size:=aO.lt h
structure LA (w wr:World) (gr gb gq la n k:Nat) (A D:Nat) (gc:List Nat) (R Q:List Nat):Prop where
 r:KW wr gr R
 b:KW wr gb gc
 q:KW wr gq Q
 rl:R.length=la+1
 ql:Q.length=la-n+1
 ar:All 4294967296 R
 aq:All 4294967296 Q
 lt:val 4294967296 R<D*4294967296 ^ k
 eq:A=D*(4294967296 ^ k*val 4294967296 (Q.drop k))+val 4294967296 R
 grown:w.grownBy wr none
theorem LA.next {w wr w':World}{gr gb gq la n k A D:Nat}{gc R Q Z:List Nat} (h:LA w wr gr gb gq la n (k+1) A D gc R Q) (hD0:0<D) (hD:D<4294967296 ^ n) (hk:k+n<=la)
  (zl:Z.length=n+1) (az:All 4294967296 Z) (zv:val 4294967296 Z=val 4294967296 ((R.drop k).take (n+1)) % D)
  (hr:KW w' gr (over R Z k)) (hb:KW w' gb gc) (hq:KW w' gq (Q.set k (val 4294967296 ((R.drop k).take (n+1)) / D))) (hg:w.grownBy w' none) :
  LA w w' gr gb gq la n k A D gc (over R Z k) (Q.set k (val 4294967296 ((R.drop k).take (n+1)) / D)):=by
 have hRl:=h.rl
 have hQl:=h.ql
 obtain ⟨e1,e2,e3⟩:=NV (by omega) (by omega) hD h.lt
 generalize val 4294967296 ((R.drop k).take (n+1))=P at *
 have hov:=NW (b:=4294967296) (R:=R) (Z:=Z) (k:=k) (by omega) (by rw [zl,<- Nat.add_assoc];exact e3)
 have hm:=Nat.mod_lt P hD0
 have hdm:=Nat.div_add_mod P D
 have hql:P / D<4294967296:=by rw [Nat.div_lt_iff_lt_mul hD0,Nat.mul_comm];exact e2
 have lt:=fA (h.ar.take k)
 rw [List.length_take,Nat.min_eq_left (by omega)] at lt
 refine ⟨hr,hb,hq,by rw [tg (by omega)];exact hRl,by rw [List.length_set];exact hQl,NX h.ar az k,h.aq.set hql k,?_,?_,hg⟩
 ·rw [hov,zv]
  have:4294967296 ^ k*(P % D+1)<=4294967296 ^ k*D:=Nat.mul_le_mul_left _ hm
  rw [Nat.mul_add,Nat.mul_comm _ D] at this
  omega
 ·rw [hov,zv,lQ _ (by omega)]
  have e4:=h.eq
  rw [e1] at e4
  generalize val 4294967296 (R.take k)=lo at *
  generalize val 4294967296 (Q.drop (k+1))=V at *
  rw [Nat.pow_succ] at e4
  generalize P % D=r at *
  generalize P / D=q at *
  generalize (4294967296:Nat) ^ k=E at *
  subst hdm
  rw [e4]
  simp only [Nat.mul_add,Nat.mul_assoc,Nat.mul_left_comm]
  grind
theorem KW.own {w:World}{g B:Nat}{L:List Nat}{n:Nat} (h:KW w g L) (hB:B<=g) (hn:L.length=n) (hc:n<=9223372036854775807):Own w 85 .u32 B (.slice (some ⟨g,0,none⟩) n n) L:=by
 subst hn
 exact .inr ⟨g,_,_,rfl,hB,h,Nat.le_refl _,hc,fun j _=>rfl⟩
theorem LA.start {w wr:World}{gr gb gq la n D:Nat}{gc R:List Nat} (hr:KW wr gr R) (hb:KW wr gb gc) (hq:aO wr 85 gq (la-n+1) (fun _=>.int .u32 0))
  (rl:R.length=la+1) (ar:All 4294967296 R) (hlt:val 4294967296 R<D*4294967296 ^ (la-n+1)) (hg:w.grownBy wr none) :
  LA w wr gr gb gq la n (la-n+1) (val 4294967296 R) D gc R (List.replicate (la-n+1) 0):=by
 have hv:val 4294967296 ((List.replicate (la-n+1) 0).drop (la-n+1))=0:=by rw [List.drop_replicate,gO]
 refine ⟨hr,hb,?_,rl,List.length_replicate,ar,All.iL (by omega) _,hlt,?_,hg⟩
 ·exact KW.of hq List.length_replicate (fun j hj=>by simp [nth,hj])
 ·rw [hv,Nat.mul_zero,Nat.mul_zero,Nat.zero_add]
def Bd (A i:Nat):Prop:=A<4294967296 ^ i
theorem Bd.of {xs:List Nat}{i:Nat} (h:All 4294967296 xs) (hl:xs.length<=i):Bd (val 4294967296 xs) i:=
 Nat.lt_of_lt_of_le (fA h) (Nat.pow_le_pow_right (by omega) hl)
theorem Bd.row (xs:List Nat) (h:All 4294967296 xs) (i:Nat):Bd (val 4294967296 (xs.take i)) i:=Bd.of (h.take i) (by rw [List.length_take];omega)
theorem Bd.len {A i:Nat} (h:Bd A i):(ak 4294967296 A).length<=i:=eR (by omega) i A h
theorem Bd.more {A i j:Nat} (h:Bd A i) (hj:i<=j):Bd A j:=Nat.lt_of_lt_of_le h (Nat.pow_le_pow_right (by omega) hj)
theorem Bd.le {A B i:Nat} (h:Bd A i) (hB:B<=A):Bd B i:=Nat.lt_of_le_of_lt hB h
theorem Bd.mul {A B i j:Nat} (h:Bd A i) (k:Bd B j):Bd (A*B) (i+j):=by
 unfold Bd at *
 rw [Nat.pow_add]
 exact Nat.mul_lt_mul_of_le_of_lt (Nat.le_of_lt h) k (by omega)
theorem Bd.add {A B i j:Nat} (h:Bd A i) (k:Bd B j):Bd (A+B) (i+j+1):=by
 have h1:=h.more (show i<=i+j by omega)
 have h2:=k.more (show j<=i+j by omega)
 unfold Bd at *
 rw [Nat.pow_succ]
 omega
theorem Bd.div {A i:Nat} (h:Bd A i) (B:Nat):Bd (A / B) i:=h.le (Nat.div_le_self _ _)
theorem Bd.mod {A i:Nat} (h:Bd A i) (B:Nat):Bd (A % B) i:=h.le (Nat.mod_le _ _)
theorem Bd.sub {A i:Nat} (h:Bd A i) (B:Nat):Bd (A-B) i:=h.le (Nat.sub_le _ _)
def Num (w:World) (v:Value) (X k:Nat):Prop:=∃xs,Sl w .u32 v xs∧All 4294967296 xs∧val 4294967296 xs=X∧xs.length<=k
def fx (w:World) (v:Value) (X k:Nat):Prop:=Sl w .u32 v (ak 4294967296 X)∧Bd X k
theorem fx.num {w:World}{v:Value}{X k:Nat} (h:fx w v X k):Num w v X k:=⟨_,h.1,Lg (by omega) _,cT (by omega) _,h.2.len⟩
theorem Num.grown {w w':World}{v:Value}{X k:Nat} (h:Num w v X k) (g:w.grownBy w' none):Num w' v X k:=by
 obtain ⟨xs,h1,h2⟩:=h
 exact ⟨xs,h1.grown g (.inl rfl),h2⟩
theorem fx.grown {w w':World}{v:Value}{X k:Nat} (h:fx w v X k) (g:w.grownBy w' none):fx w' v X k:=⟨h.1.grown g (.inl rfl),h.2⟩
theorem Num.bd {w:World}{v:Value}{X k:Nat} (h:Num w v X k):Bd X k:=by
 obtain ⟨xs,_,h2,rfl,h4⟩:=h
 exact Bd.of h2 h4
theorem Num.slice {w:World}{v:Value}{X k:Nat} (h:Num w v X k):∃p n cap,v = .slice p n cap:=by
 obtain ⟨xs,⟨p,cap,rfl,_⟩,_⟩:=h
 exact ⟨p,_,cap,rfl⟩
theorem Num.row {w:World}{v:Value}{xs:List Nat} (h:Sl w .u32 v xs) (a:All 4294967296 xs) (k:Nat) (hl:xs.length<=k):Num w v (val 4294967296 xs) k:=⟨xs,h,a,rfl,hl⟩
theorem Num.lit (w:World) (x:Nat) (hx:x<4294967296):Num (w.alloc (.cells #[.int .u32 x] 85)) (.slice (some ⟨w.heap.size,0,none⟩) 1 1) x 1:=
 ⟨[x],(Own.one w .u32 85 x).sl,All.cons hx (All.nil _),by simp [val],Nat.le_refl _⟩
theorem Num.one (w:World):Num (w.alloc (.cells #[.int .u32 1] 85)) (.slice (some ⟨w.heap.size,0,none⟩) 1 1) 1 1:=Num.lit w 1 (by omega)
theorem gK {n:Int} (h:(Lit.int .i64 n).wf=true) : -9223372036854775808<=n:=by
 have : -9223372036854775808<=n∧n<=9223372036854775807:=by simpa [Lit.wf,IntKind.min,IntKind.max,IntKind.signed,IntKind.bits] using h
 exact this.1
theorem gL {n:Int} (h:(Lit.int .i64 n).wf=true):n<=9223372036854775807:=by
 have : -9223372036854775808<=n∧n<=9223372036854775807:=by simpa [Lit.wf,IntKind.min,IntKind.max,IntKind.signed,IntKind.bits] using h
 exact this.2
def fy (w:World) (X k:Nat) (e:Ending) (w':World):Prop:=∃v,e = .returned v∧Own w' 85 .u32 w.heap.size v (ak 4294967296 X)∧Bd X k∧w.grownBy w' none
theorem fy.of {w:World}{X Y k:Nat}{e:Ending}{w':World} (h:Made 85 .u32 w (ak 4294967296 X) e w') (hY:X=Y) (hb:Bd Y k):fy w Y k e w':=by
 subst hY
 obtain ⟨v,h1,h2,h3⟩:=h
 exact ⟨v,h1,h2,hb,h3⟩
section
variable {w:World}{v u:Value}{X Y i j:Nat}
theorem AR (hx:Num w v X i) (hy:Num w u Y j) (hi:i+j<=1000000):Calls Try.prog 69 #[v,u] w (fy w (X+Y) (i+j+1)):=by
 have b:=hx.bd.add hy.bd
 obtain ⟨xs,s1,a1,rfl,l1⟩:=hx
 obtain ⟨ys,s2,a2,rfl,l2⟩:=hy
 exact (Cr s1 s2 a1 a2 (by omega) (by omega)).mono fun _ _ h=>fy.of h rfl b
theorem AQ (hx:Num w v X i) (hy:Num w u Y j) (hi:i+j<=1000000):Calls Try.prog 71 #[v,u] w (fy w (X*Y) (i+j)):=by
 have b:=hx.bd.mul hy.bd
 obtain ⟨xs,s1,a1,rfl,l1⟩:=hx
 obtain ⟨ys,s2,a2,rfl,l2⟩:=hy
 exact (CV s1 s2 a1 a2 (by omega) (by omega)).mono fun _ _ h=>fy.of h rfl b
theorem nP (hx:Num w v X i) (hi:i<=1000000):Calls Try.prog 66 #[v] w (fy w X i):=by
 have b:=hx.bd
 obtain ⟨xs,s1,a1,rfl,l1⟩:=hx
 refine (Cc s1 (by omega)).mono fun _ _ h=>?_
 rw [dQ (by omega) a1] at h
 exact fy.of h rfl b
theorem AM (hx:Num w v X i) (hi:i<=1000000):Calls Try.prog 91 #[v] w fun e w'=>e = .returned (.int .i64 ((ak 2 X).length:Nat))∧w=w':=by
 obtain ⟨xs,s1,a1,rfl,l1⟩:=hx
 exact CA s1 a1 (by omega)
theorem su (r:Int) (hx:Num w v X i) (hy:Num w u Y j) (hr:bZ X Y=r):Calls Try.prog 73 #[v,u] w fun e w'=>e = .returned (.int .i64 r)∧w.grownBy w' none:=by
 subst hr
 obtain ⟨xs,s1,a1,rfl,l1⟩:=hx
 obtain ⟨ys,s2,a2,rfl,l2⟩:=hy
 exact CX s1 s2 a1 a2
def Da (w:World) (X k:Nat) (e:Ending) (w':World):Prop:=∃v,e = .returned (.tuple #[v,.bool true])∧Own w' 85 .u32 w.heap.size v (ak 4294967296 X)∧Bd X k∧w.grownBy w' none
theorem sx (hx:Num w v X i) (hy:Num w u Y j) (hi:i<=1000000) (hle:Y<=X):Calls Try.prog 89 #[v,u] w (Da w (X-Y) i):=by
 have b:=hx.bd.sub Y
 obtain ⟨xs,s1,a1,rfl,l1⟩:=hx
 obtain ⟨ys,s2,a2,rfl,l2⟩:=hy
 refine (MI s1 s2 a1 a2 (by omega)).mono fun e w' h=>?_
 rcases h with ⟨h,_⟩ | ⟨_,v,h1,h2,h3⟩
 ·omega
 ·exact ⟨v,h1,h2,b,h3⟩
theorem AO (hx:Num w v X i) (hy:Num w u Y j) (hi:i<=1000000) (hlt:X<Y):Calls Try.prog 89 #[v,u] w fun e w'=>e = .returned (.tuple #[.slice none 0 0,.bool false])∧w.grownBy w' none:=by
 obtain ⟨xs,s1,a1,rfl,l1⟩:=hx
 obtain ⟨ys,s2,a2,rfl,l2⟩:=hy
 refine (MI s1 s2 a1 a2 (by omega)).mono fun e w' h=>?_
 rcases h with ⟨_,h,g⟩ | ⟨h,_⟩
 ·exact ⟨h,g⟩
 ·omega
def KK (w:World) (Q R i j:Nat) (e:Ending) (w':World):Prop:=
 ∃v u,e = .returned (.tuple #[v,u,.int .i64 0])∧Own w' 85 .u32 w.heap.size v (ak 4294967296 Q)∧Own w' 85 .u32 w.heap.size u (ak 4294967296 R) ∧
  (v.ownBlock=none∨v.ownBlock≠u.ownBlock)∧Bd Q i∧Bd R j∧w.grownBy w' none
end
theorem fx.none (w:World):fx w (.slice none 0 0) 0 1:=⟨Sl.nil _ _,by unfold Bd;exact Nat.pow_pos (by omega)⟩
theorem fg {w w1 w2:World}{e:TypeId}{k:IntKind}{v:Value}{xs:List Nat} (g:w1.grownBy w2 v.ownBlock) (h:Own w1 e k w.heap.size v xs) (g0:w.grownBy w1 none):w.grownBy w2 none:=
 ⟨g.os.trans g0.os,g.tape.trans g0.tape,g.output.trans g0.output,Nat.le_trans g0.size g.size,
  fun i hi _=>(g.block i (Nat.lt_of_lt_of_le hi g0.size) (fun e=>by have:=(h.lt i e.symm).1;omega)).trans (g0.block i hi (by simp))⟩
def gQ (w:World) (B:Nat) (v:Value) (xs:List Nat):Prop:=∃g,B<=g∧v = .slice (some ⟨g,0,none⟩) xs.length (xs.length+3)∧KW w g (xs ++ List.replicate 3 1431655765)
theorem gQ.sl {w:World}{B:Nat}{v:Value}{xs:List Nat} (h:gQ w B v xs) (hl:xs.length<=1000000):Sl w .u32 v xs:=by
 obtain ⟨g,-,rfl,h⟩:=h
 have:=h.sl 0 xs.length (xs.length+3) (by simp) (by omega) (by omega)
 rw [List.drop_zero,List.take_append_of_le_length (Nat.le_refl _),List.take_length] at this
 exact this
theorem gQ.grown {w w':World}{B:Nat}{v:Value}{xs:List Nat}{row:Option Nat} (h:gQ w B v xs) (hg:w.grownBy w' row) (hne:row=none∨v.ownBlock≠row):gQ w' B v xs:=by
 obtain ⟨g,hB,rfl,h⟩:=h
 refine ⟨g,hB,rfl,h.grown hg ?_⟩
 rcases hne with rfl | hne
 ·simp
 ·simpa [Value.ownBlock] using hne
theorem gQ.lt {w:World}{B:Nat}{v:Value}{xs:List Nat} (h:gQ w B v xs):∃g,v.ownBlock=some g∧B<=g∧g<w.heap.size:=by
 obtain ⟨g,hB,rfl,h⟩:=h
 exact ⟨g,rfl,hB,h.lt⟩
end Go.Proofs.Ytomamliepbhegaa
