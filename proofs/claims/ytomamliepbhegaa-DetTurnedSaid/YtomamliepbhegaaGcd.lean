/- Several steps of Euclid foreseen by windows (Lehmer, Collins's condition): the arithmetic, with no program. Package whole: the greatest common divisor (Lehmer's steps), and the reference's. -/
import GoSem.Claim
import Derived.Test.YtomamliepbhegaaLimbL
import Derived.Test.YtomamliepbhegaaIntA
import Derived.Deep.DeepCutAuto
import Derived.Test.YtomamliepbhegaaBx
namespace Go.Proofs.Ytomamliepbhegaa
open Go.RowKit
structure Turned (x0 y0:Nat) (e:Bool) (P Q R U x y:Nat):Prop where
 hx:x0=U*x+Q*y
 hy:y0=R*x+P*y
 KG:if e then Q*R=P*U+1 else P*U=Q*R+1
theorem Turned.start (x y:Nat):Turned x y false 1 0 0 1 x y:=⟨by simp,by simp,by simp⟩
theorem Turned.step {x0 y0 P Q R U x y:Nat}{e:Bool} (h:Turned x0 y0 e P Q R U x y):Turned x0 y0 (!e) R U (P+x / y*R) (Q+x / y*U) y (x % y):=by
 have e1:=Nat.div_add_mod x y
 obtain ⟨hx,hy,hd⟩:=h
 generalize x / y=q at *
 generalize x % y=r at *
 subst e1
 refine ⟨?_,?_,?_⟩
 ·rw [hx];grind
 ·rw [hy];grind
 ·cases e <;> simp only [Bool.not_true,Bool.not_false,if_true,if_false,Bool.false_eq_true] at hd ⊢ <;> grind
theorem Turned.size {x0 y0 P Q R U x y:Nat}{e:Bool} (h:Turned x0 y0 e P Q R U x y) (hx:0<x):U<=x0:=by
 rw [h.hx]
 exact Nat.le_trans (Nat.le_mul_of_pos_right U hx) (Nat.le_add_right _ _)
theorem Turned.small {x0 y0 P Q R U x y n:Nat}{e:Bool} (h:Turned x0 y0 e P Q R U x y) (hU:U<=y) (hxy:y<=x) (hn:x0<n*n):U<n:=by
 have h1:U*U<=x0:=by
  rw [h.hx]
  exact Nat.le_trans (Nat.mul_le_mul_left U (Nat.le_trans hU hxy)) (Nat.le_add_right _ _)
 rcases Nat.lt_or_ge U n with h2 | h2
 ·exact h2
 ·have:=Nat.mul_le_mul h2 h2
  omega
theorem Turned.numbers {x0 y0 P Q R U x y S α β:Nat}{e:Bool} (h:Turned x0 y0 e P Q R U x y) (hα:α<S) (hβ:β<S) (hPQ:P<=Q) (hRU:R<=U) (h1:U<=y) (h2:y+(U+Q)<=x) :
  ∃A' B':Nat,x0*S+α=U*A'+Q*B'∧y0*S+β=R*A'+P*B'∧B'<=A' ∧
   (A':Int)=(if e then -1 else 1)*((P:Int)*(x0*S+α:Nat)-(Q:Int)*(y0*S+β:Nat))∧(B':Int)=(if e then -1 else 1)*((U:Int)*(y0*S+β:Nat)-(R:Int)*(x0*S+α:Nat)):=by
 obtain ⟨hx,hy,hd⟩:=h
 have bQ:Q*β<=Q*S:=Nat.mul_le_mul_left Q (by omega)
 have bU:U*β<=U*S:=Nat.mul_le_mul_left U (by omega)
 have bP:P*α<=Q*S:=Nat.mul_le_mul hPQ (by omega)
 have bR:R*α<=U*S:=Nat.mul_le_mul hRU (by omega)
 have bu:U*S<=y*S:=Nat.mul_le_mul_right S h1
 have bx:(y+(U+Q))*S<=x*S:=Nat.mul_le_mul_right S h2
 rw [Nat.add_mul,Nat.add_mul] at bx
 cases e
 ·simp only [Bool.false_eq_true,if_false] at hd ⊢
  obtain ⟨A',hA⟩:∃A':Nat,A'+Q*β=x*S+P*α:=⟨x*S+P*α-Q*β,by omega⟩
  obtain ⟨B',hB⟩:∃B':Nat,B'+R*α=y*S+U*β:=⟨y*S+U*β-R*α,by omega⟩
  have k1 : (A' : Int) = x * S + P * α - Q * β := by have : ((A' + Q * β : Nat) : Int) = (x * S + P * α : Nat) := by rw [hA]
                                                     push_cast at this;omega
  have k2 : (B' : Int) = y * S + U * β - R * α := by have : ((B' + R * α : Nat) : Int) = (y * S + U * β : Nat) := by rw [hB]
                                                     push_cast at this;omega
  have k3:(x0:Int)=U*x+Q*y:=by rw [hx];push_cast;rfl
  have k4:(y0:Int)=R*x+P*y:=by rw [hy];push_cast;rfl
  have k5 : (P : Int) * U = Q * R + 1 := by have : ((P * U : Nat) : Int) = (Q * R + 1 : Nat) := by rw [hd]
                                            push_cast at this;exact this
  refine ⟨A',B',?_,?_,?_,?_,?_⟩
  ·have:((x0*S+α:Nat):Int)=(U*A'+Q*B':Nat):=by push_cast;rw [k1,k2,k3];grind
   omega
  ·have:((y0*S+β:Nat):Int)=(R*A'+P*B':Nat):=by push_cast;rw [k1,k2,k4];grind
   omega
  ·omega
  ·push_cast;rw [k1,k3,k4];grind
  ·push_cast;rw [k2,k3,k4];grind
 ·simp only [if_true] at hd ⊢
  obtain ⟨A',hA⟩:∃A':Nat,A'+P*α=x*S+Q*β:=⟨x*S+Q*β-P*α,by omega⟩
  obtain ⟨B',hB⟩:∃B':Nat,B'+U*β=y*S+R*α:=⟨y*S+R*α-U*β,by omega⟩
  have k1 : (A' : Int) = x * S + Q * β - P * α := by have : ((A' + P * α : Nat) : Int) = (x * S + Q * β : Nat) := by rw [hA]
                                                     push_cast at this;omega
  have k2 : (B' : Int) = y * S + R * α - U * β := by have : ((B' + U * β : Nat) : Int) = (y * S + R * α : Nat) := by rw [hB]
                                                     push_cast at this;omega
  have k3:(x0:Int)=U*x+Q*y:=by rw [hx];push_cast;rfl
  have k4:(y0:Int)=R*x+P*y:=by rw [hy];push_cast;rfl
  have k5 : (Q : Int) * R = P * U + 1 := by have : ((Q * R : Nat) : Int) = (P * U + 1 : Nat) := by rw [hd]
                                            push_cast at this;exact this
  refine ⟨A',B',?_,?_,?_,?_,?_⟩
  ·have:((x0*S+α:Nat):Int)=(U*A'+Q*B':Nat):=by push_cast;rw [k1,k2,k3];grind
   omega
  ·have:((y0*S+β:Nat):Int)=(R*A'+P*B':Nat):=by push_cast;rw [k1,k2,k4];grind
   omega
  ·omega
  ·push_cast;rw [k1,k3,k4];grind
  ·push_cast;rw [k2,k3,k4];grind
theorem AD {A B A' B' P Q R U:Nat}{e:Bool} (h1:A=U*A'+Q*B') (h2:B=R*A'+P*B')
  (h3:(A':Int)=(if e then -1 else 1)*((P:Int)*A-(Q:Int)*B)) (h4:(B':Int)=(if e then -1 else 1)*((U:Int)*B-(R:Int)*A)):Nat.gcd A B=Nat.gcd A' B':=by
 apply Nat.dvd_antisymm
 ·have dA:(Nat.gcd A B:Int)∣A:=Int.natCast_dvd_natCast.2 (Nat.gcd_dvd_left A B)
  have dB:(Nat.gcd A B:Int)∣B:=Int.natCast_dvd_natCast.2 (Nat.gcd_dvd_right A B)
  refine Nat.dvd_gcd ?_ ?_
  ·refine Int.natCast_dvd_natCast.1 ?_
   rw [h3]
   exact Int.dvd_mul_of_dvd_right (Int.dvd_sub (Int.dvd_mul_of_dvd_right dA) (Int.dvd_mul_of_dvd_right dB))
  ·refine Int.natCast_dvd_natCast.1 ?_
   rw [h4]
   exact Int.dvd_mul_of_dvd_right (Int.dvd_sub (Int.dvd_mul_of_dvd_right dB) (Int.dvd_mul_of_dvd_right dA))
 ·have dA:=Nat.gcd_dvd_left A' B'
  have dB:=Nat.gcd_dvd_right A' B'
  refine Nat.dvd_gcd ?_ ?_
  ·rw [h1];exact Nat.dvd_add (Nat.dvd_mul_left_of_dvd dA U) (Nat.dvd_mul_left_of_dvd dB Q)
  ·rw [h2];exact Nat.dvd_add (Nat.dvd_mul_left_of_dvd dA R) (Nat.dvd_mul_left_of_dvd dB P)
theorem fZ {z:Int} (h1 : -9223372036854775808<=z) (h2:z<=9223372036854775807):wrap64 z=z:=by
 unfold wrap64;omega
def sE (e:Bool):Int:=if e then -1 else 1
def Lo (x0 y0:Nat) (a b c d:Int) (x y:Nat):Prop:=
 ∃(e:Bool) (P Q R U:Nat),Turned x0 y0 e P Q R U x y∧a=sE e*P∧b = -(sE e*Q)∧c = -(sE e*R)∧d=sE e*U∧y<=x∧1<=U ∧
  ((P=1∧Q=0∧R=0∧U=1)∨(P<=Q∧R<=U∧Q<=U∧1<=R∧1<=Q∧U<=y∧y+(U+Q)<=x))
theorem Lo.start {x y:Nat} (h:y<=x):Lo x y 1 0 0 1 x y:=⟨false,1,0,0,1,Turned.start x y,by simp [sE],by simp,by simp,by simp [sE],h,Nat.le_refl _,.inl ⟨rfl,rfl,rfl,rfl⟩⟩
theorem Lo.step {x0 y0 x y:Nat}{a b c d:Int} (h:Lo x0 y0 a b c d x y) (hy:0<y) (hx0:x0<4611686018427387904) (hyx:y0<=x0) :
  ∃L G:Nat,L<4611686018427387904∧G<4611686018427387904∧max (b-(x / y:Nat)*d) (-(b-(x / y:Nat)*d))=(L:Int)∧max d (-d)=(G:Int) ∧
   -9223372036854775808<=(x / y:Nat)*c∧(x / y:Nat)*c<=9223372036854775807 ∧ -9223372036854775808<=a-(x / y:Nat)*c∧a-(x / y:Nat)*c<=9223372036854775807 ∧
   -9223372036854775808<=(x / y:Nat)*d∧(x / y:Nat)*d<=9223372036854775807 ∧ -9223372036854775808<b-(x / y:Nat)*d∧b-(x / y:Nat)*d<=9223372036854775807 ∧ -9223372036854775808<d∧d<=9223372036854775807 ∧
   x<4611686018427387904∧y<=x∧(L<=x % y->x % y+(L+G)<=y->Lo x0 y0 c d (a-(x / y:Nat)*c) (b-(x / y:Nat)*d) y (x % y)):=by
 obtain ⟨e,P,Q,R,U,ht,rfl,rfl,rfl,rfl,hxy,hU,hc⟩:=h
 have hs:=ht.step
 have hm:=Nat.mod_lt x hy
 have hq:1<=x / y:=(Nat.one_le_div_iff hy).2 hxy
 have hqx:x / y*1<=x / y*y:=Nat.mul_le_mul_left _ hy
 have hqy:x / y*y<=x:=Nat.div_mul_le_self x y
 generalize x / y=q at *
 generalize x % y=r at *
 have e1:x0=U*x+Q*y:=ht.hx
 have e2:y0=R*x+P*y:=ht.hy
 have u1:q*U<=U*x:=by rw [Nat.mul_comm];exact Nat.mul_le_mul_left U (by omega)
 have u2:q*R<=R*x:=by rw [Nat.mul_comm];exact Nat.mul_le_mul_left R (by omega)
 have u3:Q<=Q*y:=Nat.le_mul_of_pos_right Q hy
 have u4:P<=P*y:=Nat.le_mul_of_pos_right P hy
 have u5:U*1<=U*x:=Nat.mul_le_mul_left U (by omega)
 have u6:1*x<=U*x:=Nat.mul_le_mul_right x hU
 have u7:1*U<=q*U:=Nat.mul_le_mul_right U hq
 have u8:1*R<=q*R:=Nat.mul_le_mul_right R hq
 have v1:((q:Int)*(U:Int))=((q*U:Nat):Int):=by push_cast;rfl
 have v2:((q:Int)*(R:Int))=((q*R:Nat):Int):=by push_cast;rfl
 have hnew:∀(e':Bool),e'=(!e)->Q+q*U<=r->r+(Q+q*U+U)<=y->Lo x0 y0 (-(sE e*R)) (sE e*U) (sE e*P-q * -(sE e*R)) (-(sE e*Q)-q*(sE e*U)) y r:=by
  intro e' he' h1 h2
  refine ⟨!e,R,U,P+q*R,Q+q*U,hs,?_,?_,?_,?_,by omega,by omega,.inr ⟨?_,?_,by omega,?_,hU,h1,by omega⟩⟩
  ·cases e <;> simp [sE]
  ·cases e <;> simp [sE]
  ·cases e <;> simp [sE] <;> grind
  ·cases e <;> simp [sE] <;> grind
  ·rcases hc with ⟨h1,h2,h3,h4⟩ | hc
   ·omega
   ·omega
  ·rcases hc with ⟨h1,h2,h3,h4⟩ | hc
   ·subst h1 h2 h3 h4;omega
   ·have:=Nat.mul_le_mul_left q hc.2.1;omega
  ·rcases hc with ⟨h1,h2,h3,h4⟩ | hc
   ·omega
   ·omega
 refine ⟨Q+q*U,U,by omega,by omega,?_,?_,?_,?_,?_,?_,?_,?_,?_,?_,?_,?_,by omega,hxy,hnew _ rfl⟩
 all_goals (cases e <;> simp only [sE,Bool.false_eq_true,if_false,if_true,Int.one_mul,Int.neg_mul,Int.neg_neg,Int.mul_neg,v1,v2] <;> omega)
def part (xs:List Nat) (top k:Nat):Nat->Value:=fun j=>.int .u32 ((if j<k then nth xs (top-j) else 0:Nat):Int)
def Opp (a b:Int):Prop:=(0<=a∧a<=2147483647 ∧ -2147483647<=b∧b<=0)∨(0<=b∧b<=2147483647 ∧ -2147483647<=a∧a<=0)
theorem nK {a:Int}{x:Nat} (h0:0<=a) (h1:a<=2147483647) (hx:x<4294967296):0<=a*x∧a*x<=9223372030412324865:=by
 refine ⟨Int.mul_nonneg h0 (by omega),?_⟩
 have:=Int.mul_le_mul h1 (show (x:Int)<=4294967295 by omega) (by omega) (by omega)
 omega
theorem se {a:Int}{x:Nat} (h0:a<=0) (h1 : -2147483647<=a) (hx:x<4294967296) : -9223372030412324865<=a*x∧a*x<=0:=by
 have:=nK (a:=-a) (x:=x) (by omega) (by omega) hx
 rw [Int.neg_mul] at this
 omega
theorem Opp.ops {a b o:Int} (h:Opp a b){x y:Nat} (hx:x<4294967296) (hy:y<4294967296) (o1 : -2147483648<=o) (o2:o<2147483648) :
  wrap64 (a*x)=a*x∧wrap64 (b*y)=b*y∧wrap64 (a*x+b*y)=a*x+b*y∧wrap64 (o+(a*x+b*y))=o+(a*x+b*y) ∧
   -2147483648<=(o+(a*x+b*y)) / 4294967296∧(o+(a*x+b*y)) / 4294967296<2147483648:=by
 rcases h with ⟨h1,h2,h3,h4⟩ | ⟨h1,h2,h3,h4⟩
 ·have p:=nK h1 h2 hx
  have n:=se h4 h3 hy
  refine ⟨fZ ?_ ?_,fZ ?_ ?_,fZ ?_ ?_,fZ ?_ ?_,?_,?_⟩ <;> omega
 ·have p:=nK h1 h2 hy
  have n:=se h4 h3 hx
  refine ⟨fZ ?_ ?_,fZ ?_ ?_,fZ ?_ ?_,fZ ?_ ?_,?_,?_⟩ <;> omega
def nL:Option Value->Nat | some (.int _ x)=>x.toNat | _=>0
def numOf (B:Nat) (w:World):Value->Nat
 | .slice (some a) n _=>val B (pre (fun j=>nL (w.cell? ⟨a.block,a.off+j,none⟩)) n)
 | _=>0
theorem AE {B:Nat}{w:World}{k:IntKind}{v:Value}{xs:List Nat} (h:Sl w k v xs):numOf B w v=val B xs:=by
 obtain ⟨p,cap,rfl,-,-,h⟩:=h
 rcases h with rfl | ⟨b,off,rfl,-,h⟩
 ·cases p <;> simp [numOf,pre,val]
 ·show val B (pre (fun j=>nL (w.cell? ⟨b,off+j,none⟩)) xs.length)=_
  rw [AF (g:=nth xs) (fun j hj=>by rw [h j hj];simp [nL]),sf]
theorem si {B:Nat}{w:World}{k:IntKind}{v:Value}{X:Nat} (hB:2<=B) (h:Sl w k v (ak B X)):numOf B w v=X:=by rw [AE h,cT hB]
theorem Bd.gcd {A C k:Nat} (h:Bd A k) (h2:Bd C k):Bd (Nat.gcd A C) k:=by
 rcases Nat.eq_zero_or_pos A with rfl | h0
 ·rw [Nat.gcd_zero_left];exact h2
 ·exact h.le (Nat.gcd_le_left C h0)
theorem Lo.out {A C s x y:Nat}{a b c d:Int} (h:Lo (A / 2 ^ s) (C / 2 ^ s) a b c d x y) (hb:b≠0) (hw:A / 2 ^ s<4611686018427387904) (hC:0<C) :
  ∃A' B':Nat,(A':Int)=a*(A:Int)+b*(C:Int)∧(B':Int)=c*(A:Int)+d*(C:Int)∧Nat.gcd A' B'=Nat.gcd A C∧B'<=A'∧A'<=C∧A'+B'<A+C∧Opp a b∧Opp c d:=by
 obtain ⟨e,P,Q,R,U,ht,rfl,rfl,rfl,rfl,hxy,hU,hc⟩:=h
 rcases hc with ⟨h1,h2,h3,h4⟩ | ⟨h1,h2,h3,h4,h5,h6,h7⟩
 ·subst h2;simp at hb
 ·have hs:=ht.small h6 hxy (n:=2147483648) (by omega)
  have hS:0<2 ^ s:=Nat.pow_pos (by omega)
  obtain ⟨A',B',e1,e2,e3,e4,e5⟩:=ht.numbers (α:=A % 2 ^ s) (β:=C % 2 ^ s) (Nat.mod_lt _ hS) (Nat.mod_lt _ hS) h1 h2 h6 h7
  have d1:A / 2 ^ s*2 ^ s+A % 2 ^ s=A:=by rw [Nat.mul_comm];exact Nat.div_add_mod _ _
  have d2:C / 2 ^ s*2 ^ s+C % 2 ^ s=C:=by rw [Nat.mul_comm];exact Nat.div_add_mod _ _
  rw [d1,d2] at e4 e5
  rw [d1] at e1
  rw [d2] at e2
  have g:=AD e1 e2 e4 e5
  have u1:1*A'<=R*A':=Nat.mul_le_mul_right A' h4
  have u2:1*A'<=U*A':=Nat.mul_le_mul_right A' hU
  have u3:1*B'<=Q*B':=Nat.mul_le_mul_right B' h5
  refine ⟨A',B',?_,?_,g.symm,e3,by omega,by omega,?_,?_⟩
  ·rw [e4];cases e <;> simp [sE] <;> grind
  ·rw [e5];cases e <;> simp [sE] <;> grind
  ·cases e <;> simp [sE,Opp] <;> omega
  ·cases e <;> simp [sE,Opp] <;> omega
def jN (w:World) (v:Value) (n:Nat) (zs:Nat->Int) (k:Nat):Prop:=
 ∃(p:Option Addr) (cap:Nat),v = .slice p n cap∧n<=cap∧cap<=9223372036854775807 ∧
  (n=0∨∃b off,p=some ⟨b,off,none⟩∧∀j,j<n->∃(x:Bool) (s:Value) (X:Nat),w.cell? ⟨b,off+j*2,none⟩=some (.bool x)∧w.cell? ⟨b,off+j*2+1,none⟩=some s∧Num w s X k∧zs j=sg x X)
theorem jN.grown {w w':World}{v:Value}{n:Nat}{zs:Nat->Int}{k:Nat} (h:jN w v n zs k) (g:w.grownBy w' none):jN w' v n zs k:=by
 obtain ⟨p,cap,rfl,h1,h2,h3⟩:=h
 refine ⟨p,cap,rfl,h1,h2,?_⟩
 rcases h3 with h3 | ⟨b,off,rfl,h3⟩
 ·exact .inl h3
 ·refine .inr ⟨b,off,rfl,fun j hj=>?_⟩
  obtain ⟨x,s,X,c0,c1,hn,hz⟩:=h3 j hj
  exact ⟨x,s,X,cell_grown g c0,cell_grown g c1,hn.grown g,hz⟩
theorem jN.lt {w:World}{p:Option Addr}{m cap n:Nat}{zs:Nat->Int}{k:Nat} (h:jN w (.slice p m cap) n zs k):m=n∧n<=9223372036854775807:=by
 obtain ⟨p',cap',e,h1,h2,h3⟩:=h
 simp only [Value.slice.injEq] at e
 omega
def AG (w:World) (z:Int) (k:Nat) (e:Ending) (w':World):Prop:=∃v,e = .returned v∧af w' v z k∧w.grownBy w' none
theorem af.cells {w:World}{v:Value}{z:Int}{k:Nat} (h:af w v z k):∃p cap,v = .agg #[.slice p (ak 10000 z.natAbs).length cap,.bool (decide (z<0))]∧bV w (.slice p (ak 10000 z.natAbs).length cap) z.natAbs k:=h
set_option maxRecDepth 100000 in
set_option maxHeartbeats 4000000 in
theorem AH {v u:Value}{y z:Int}{k:Nat}{w:World} (hv:af w v y k) (hu:af w u z k) (hk:k+k<=1000000) :
  Calls Try.prog 76 #[v,u] w (AG w (Nat.gcd y.natAbs z.natAbs:Int) k):=by
 obtain ⟨p,cap,rfl,hv⟩:=hv
 obtain ⟨q,cap',rfl,hu⟩:=hu
 have S0:Kept w [(w.heap.size+1,0,.slice q (ak 10000 z.natAbs).length cap'),(w.heap.size+1,1,.bool (decide (z<0))),(w.heap.size,0,.slice p (ak 10000 y.natAbs).length cap),(w.heap.size,1,.bool (decide (y<0)))] [w.heap.size+2] (((w.alloc (.cells #[.slice p (ak 10000 y.natAbs).length cap,.bool (decide (y<0))] 61)).alloc (.cells #[.slice q (ak 10000 z.natAbs).length cap',.bool (decide (z<0))] 61)).alloc (.cells #[.slice none 0 0,.bool false] 61)):=
  (((Kept.start w).box _ _ _ _ rfl).box _ _ _ _ (by simp)).res _ _ _ _ _ (by simp)
 have HV:=Lib.hid hv
 have HU:=Lib.hid hu
 clear hv hu
 go_enter Try.func76,Try.ntmps76
 go_upto_region 1 with fail
 obtain ⟨c0,c1,c2,c3,G0⟩:=id S0
 go_region
 obtain ⟨w0,hw0⟩:∃w0,(((w.alloc (.cells #[.slice p (ak 10000 y.natAbs).length cap,.bool (decide (y<0))] 61)).alloc (.cells #[.slice q (ak 10000 z.natAbs).length cap',.bool (decide (z<0))] 61)).alloc (.cells #[.slice none 0 0,.bool false] 61))=w0:=⟨_,rfl⟩
 have e0:w0.cell? ⟨w.heap.size+2,0,none⟩=some (.slice none 0 0):=by rw [<- hw0];simp [go_sem]
 have e1:w0.cell? ⟨w.heap.size+2,1,none⟩=some (.bool false):=by rw [<- hw0];simp [go_sem]
 replace e0:=cell_grown (Lb w0 none) e0
 replace e1:=cell_grown (Lb w0 none) e1
 rw [hw0] at S0 G0 ⊢
 replace S0:=Kept.grown _ _ S0 (Lb w0 none)
 clear hw0 c0 c1 c2 c3 G0
 generalize w0.drew=w1 at *
 replace HV:=Lib.hid (HV.out.grown (Kept.all _ _ S0))
 replace HU:=Lib.hid (HU.out.grown (Kept.all _ _ S0))
 go_wp2_with fail
 go_loopw [5,6] (fun xv yv wr=>∃X Y:Nat,bV wr xv X k∧bV wr yv Y k∧Nat.gcd X Y=Nat.gcd y.natAbs z.natAbs∧w1.grownBy wr none) (fun _ yv wr=>numOf 10000 wr yv)
 case atStart=>exact ⟨_,_,HV.out,HU.out,rfl,ba _ _⟩
 case round=>
  obtain ⟨X,Y,hX,hY,hg,gr⟩:=hrel
  clear HV HU
  have mY:=si (B:=10000) (by omega) hY.1
  obtain ⟨px,cx,rfl,-⟩:=id hX.1
  obtain ⟨py,cy,rfl,-⟩:=id hY.1
  have HX:=Lib.hid hX
  have HY:=Lib.hid hY
  have Hg:=Lib.hid hg
  have MY:=Lib.hid mY
  have bG:Bd (Nat.gcd y.natAbs z.natAbs) k:=by rw [<- hg];exact hX.2.gcd hY.2
  have BG:=Lib.hid bG
  clear hX hY hg mY bG
  by_cases h0:Y=0
  ·have l0:(ak 10000 Y).length=0:=(fb (by omega)).2 h0
   have hG:X=Nat.gcd y.natAbs z.natAbs:=by rw [<- Hg.out,h0,Nat.gcd_zero_right]
   have HG:=Lib.hid hG
   replace S0:=Kept.grown _ _ S0 gr
   clear hG
   generalize (ak 10000 Y).length=ly at *
   have b1:¬(0:Int)<(ly:Int):=by omega
   obtain ⟨c0,c1,c2,c3,r0,r1,f0,f1,G⟩:=id S0
   have E0:=Lib.hid (cell_grown gr e0)
   have E1:=Lib.hid (cell_grown gr e1)
   clear e0 e1
   go_wp2_with fail
   have G2:=Kept.all _ _ (Kept.set (g:=w.heap.size+2) (u:=.slice px (ak 10000 X).length cx) (v:=.bool false) _ _ (by simp <;> omega) (by omega) S0)
   have K:=Kp.set2 (u:=.slice px (ak 10000 X).length cx) (v:=.bool false) E0.out E1.out (by simp) (by simp)
   refine lw Try.results76 rfl rfl (dm r0) (dp r1) ⟨_,rfl,⟨px,cx,?_,?_⟩,G2⟩
   ·rw [<- HG.out,Int.natAbs_natCast,decide_eq_false (by omega)]
   ·rw [<- HG.out,Int.natAbs_natCast]
    exact ⟨HX.out.1.kp K,HX.out.2⟩
  ·have l0:(ak 10000 Y).length≠0:=fun h=>h0 ((fb (by omega)).1 h)
   obtain ⟨ly,hly⟩:∃ly,(ak 10000 Y).length=ly:=⟨_,rfl⟩
   have Hly:=Lib.hid hly
   have dv:=sj HX.out HY.out hk (show 0<Y by omega)
   have m4:=MY.out
   have lY:=HY.out.len
   rw [hly] at l0 dv m4 lY ⊢
   have Dv:=Lib.hid dv
   have M4:=Lib.hid m4
   have b1:(0:Int)<(ly:Int):=by omega
   clear hly dv m4
   go_wp2_with fail
   refine Dv.out.mono ?_
   clear Dv
   rintro e w2 ⟨vq,vr,rfl,-,or,-,br,g2⟩
   have Or:=Lib.hid (show bV w2 vr (X % Y) k from ⟨or.sl,br⟩)
   clear or br
   go_wp2_with fail
   go_roundw
   case rel=>exact ⟨Y,X % Y,by have h:=HY.out.grown g2;rw [Hly.out] at h;exact h,Or.out,((Nat.gcd_comm Y (X % Y)).trans ((Nat.gcd_rec Y X).symm.trans (Nat.gcd_comm Y X))).trans Hg.out,be gr g2⟩
   case measure=>
    have m2:=si (B:=10000) (by omega) Or.out.1
    have m4:=M4.out
    rw [m2,m4]
    exact Nat.mod_lt _ (by omega)
theorem aB.more {w:World}{v:Value}{z:Int}{k l:Nat} (h:aB w v z k) (hl:k<=l):aB w v z l:=by
 obtain ⟨b,s,X,h1,⟨xs,a1,a2,a3,a4⟩,h3⟩:=h
 exact ⟨b,s,X,h1,⟨xs,a1,a2,a3,by omega⟩,h3⟩
theorem af.more {w:World}{v:Value}{z:Int}{k l:Nat} (h:af w v z k) (hl:k<=l):af w v z l:=by
 obtain ⟨p,cap,h1,h2,h3⟩:=h
 exact ⟨p,cap,h1,h2,h3.more hl⟩
theorem aB.parts {w:World}{b:Bool}{s:Value}{z:Int}{k:Nat} (h:aB w (.agg #[.bool b,s]) z k):∃X,Num w s X k∧z=sg b X:=by
 obtain ⟨b',s',X,e,h1,h2⟩:=h
 simp only [Value.agg.injEq,Array.mk.injEq,List.cons.injEq,Value.bool.injEq,and_true] at e
 obtain ⟨rfl,rfl⟩:=e
 exact ⟨X,h1,h2⟩
def ej (w:World) (g:Nat) (b0:Bool) (p0:Option Addr) (n0 c0:Nat) (b1:Bool) (p1:Option Addr) (n1 c1:Nat):Prop:=
 w.cell? ⟨g,0,none⟩=some (.bool b0)∧w.cell? ⟨g,1,none⟩=some (.slice p0 n0 c0)∧w.cell? ⟨g,2,none⟩=some (.bool b1)∧w.cell? ⟨g,3,none⟩=some (.slice p1 n1 c1)
theorem ej.a {w:World}{g:Nat}{b0:Bool}{p0:Option Addr}{n0 c0:Nat}{b1:Bool}{p1:Option Addr}{n1 c1:Nat} (h:ej w g b0 p0 n0 c0 b1 p1 n1 c1):w.cell? ⟨g,0,none⟩=some (.bool b0):=h.1
theorem ej.b {w:World}{g:Nat}{b0:Bool}{p0:Option Addr}{n0 c0:Nat}{b1:Bool}{p1:Option Addr}{n1 c1:Nat} (h:ej w g b0 p0 n0 c0 b1 p1 n1 c1):w.cell? ⟨g,1,none⟩=some (.slice p0 n0 c0):=h.2.1
theorem ej.c {w:World}{g:Nat}{b0:Bool}{p0:Option Addr}{n0 c0:Nat}{b1:Bool}{p1:Option Addr}{n1 c1:Nat} (h:ej w g b0 p0 n0 c0 b1 p1 n1 c1):w.cell? ⟨g,2,none⟩=some (.bool b1):=h.2.2.1
theorem ej.d {w:World}{g:Nat}{b0:Bool}{p0:Option Addr}{n0 c0:Nat}{b1:Bool}{p1:Option Addr}{n1 c1:Nat} (h:ej w g b0 p0 n0 c0 b1 p1 n1 c1):w.cell? ⟨g,3,none⟩=some (.slice p1 n1 c1):=h.2.2.2
theorem ej.new (w:World) (b0:Bool) (p0:Option Addr) (n0 c0:Nat) (b1:Bool) (p1:Option Addr) (n1 c1:Nat) (T:TypeId):ej (w.alloc (.cells #[.bool b0,.slice p0 n0 c0,.bool b1,.slice p1 n1 c1] T)) w.heap.size b0 p0 n0 c0 b1 p1 n1 c1:=by
 refine ⟨?_,?_,?_,?_⟩ <;> simp [go_sem]
theorem ej.grown {w w':World}{g:Nat}{b0:Bool}{p0:Option Addr}{n0 c0:Nat}{b1:Bool}{p1:Option Addr}{n1 c1:Nat} (h:ej w g b0 p0 n0 c0 b1 p1 n1 c1) (k:w.grownBy w' none):ej w' g b0 p0 n0 c0 b1 p1 n1 c1:=
 ⟨cell_grown k h.1,cell_grown k h.2.1,cell_grown k h.2.2.1,cell_grown k h.2.2.2⟩
end Go.Proofs.Ytomamliepbhegaa
