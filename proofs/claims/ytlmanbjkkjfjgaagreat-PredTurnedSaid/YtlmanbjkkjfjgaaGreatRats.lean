/- Several steps of Euclid -/
import GoSem.Claim
import Derived.Deep.DeepCutAuto
import Derived.Test.YtlmanbjkkjfjgaaGreatPolA
set_option maxRecDepth 100000
namespace Go.Proofs.YtlmanbjkkjfjgaaGreat
open Go.Proofs.Tryz
open Lib (hid)
open Go.RowKit
variable {A B P Q R U X cap cap' g j k l lead m n n0 n1 x x0 y y0:Nat}{b0 b1 e:Bool}{fn:Func}{w w':World}{r:Rat}{s u v:Value}{z:Int}{rs xs ys:List Nat}{p p0 p1:Option Addr}{o oi:Oper}{zs:Nat->Int}{T:TypeId}{done:Array Bool}
structure Turned (x0 y0:Nat) (e:Bool) (P Q R U x y:Nat):Prop where
 hx:x0=U*x+Q*y
 hy:y0=R*x+P*y
 zS:if e then Q*R=P*U+1 else P*U=Q*R+1
theorem Turned.start (x y:Nat):Turned x y false 1 0 0 1 x y:=⟨by simp,by simp,by simp⟩
theorem Turned.step  (h:Turned x0 y0 e P Q R U x y):Turned x0 y0 (!e) R U (P+x / y*R) (Q+x / y*U) y (x % y):=by
 have e1:=Nat.div_add_mod x y;obtain ⟨hx,hy,hd⟩:=h;generalize x / y=q at *
 generalize x % y=r at *
 subst e1;refine ⟨?_,?_,?_⟩
 ·rw [hx];grind
 ·rw [hy];grind
 ·cases e <;> simp only [Bool.not_true,Bool.not_false,if_true,if_false,Bool.false_eq_true] at hd ⊢ <;> grind
theorem Turned.size {y:Nat} (h:Turned x0 y0 e P Q R U x y) (hx:0<x):U<=x0:=by rw [h.hx];exact Nat.le_trans (Nat.le_mul_of_pos_right U hx) (Nat.le_add_right _ _)
theorem Turned.small {y:Nat} (h:Turned x0 y0 e P Q R U x y) (hU:U<=y) (hxy:y<=x) (hn:x0<n*n):U<n:=by
 have h1:U*U<=x0:=by rw [h.hx];exact Nat.le_trans (Nat.mul_le_mul_left U (Nat.le_trans hU hxy)) (Nat.le_add_right _ _)
 rcases Nat.lt_or_ge U n with h2 | h2
 ·exact h2
 ·have:=Nat.mul_le_mul h2 h2;omega
theorem Turned.numbers {y S α β:Nat} (h:Turned x0 y0 e P Q R U x y) (hα:α<S) (hβ:β<S) (hPQ:P<=Q) (hRU:R<=U) (h1:U<=y) (h2:y+(U+Q)<=x) :
  ∃A' B':Nat,x0*S+α=U*A'+Q*B'∧y0*S+β=R*A'+P*B'∧B'<=A' ∧
   (A':Int)=(if e then -1 else 1)*((P:Int)*(x0*S+α:Nat)-(Q:Int)*(y0*S+β:Nat))∧(B':Int)=(if e then -1 else 1)*((U:Int)*(y0*S+β:Nat)-(R:Int)*(x0*S+α:Nat)):=by
 obtain ⟨hx,hy,hd⟩:=h;have bQ:Q*β<=Q*S:=Nat.mul_le_mul_left Q (by omega);have bU:U*β<=U*S:=Nat.mul_le_mul_left U (by omega);have bP:P*α<=Q*S:=Nat.mul_le_mul hPQ (by omega);have bR:R*α<=U*S:=Nat.mul_le_mul hRU (by omega);have bu:U*S<=y*S:=Nat.mul_le_mul_right S h1;have bx:(y+(U+Q))*S<=x*S:=Nat.mul_le_mul_right S h2;rw [Nat.add_mul,Nat.add_mul] at bx;cases e
 ·simp only [Bool.false_eq_true,if_false] at hd ⊢;obtain ⟨A',hA⟩:∃A':Nat,A'+Q*β=x*S+P*α:=⟨x*S+P*α-Q*β,by omega⟩;obtain ⟨B',hB⟩:∃B':Nat,B'+R*α=y*S+U*β:=⟨y*S+U*β-R*α,by omega⟩
  have k1 : (A' : Int) = x * S + P * α - Q * β := by have : ((A' + Q * β : Nat) : Int) = (x * S + P * α : Nat) := by rw [hA]
                                                     push_cast at this;omega
  have k2 : (B' : Int) = y * S + U * β - R * α := by have : ((B' + R * α : Nat) : Int) = (y * S + U * β : Nat) := by rw [hB]
                                                     push_cast at this;omega
  have k3:(x0:Int)=U*x+Q*y:=by rw [hx];push_cast;rfl
  have k4:(y0:Int)=R*x+P*y:=by rw [hy];push_cast;rfl
  have k5 : (P : Int) * U = Q * R + 1 := by have : ((P * U : Nat) : Int) = (Q * R + 1 : Nat) := by rw [hd]
                                            push_cast at this;exact this
  refine ⟨A',B',?_,?_,?_,?_,?_⟩
  ·have:((x0*S+α:Nat):Int)=(U*A'+Q*B':Nat):=by push_cast;rw [k1,k2,k3];grind
   omega
  ·have:((y0*S+β:Nat):Int)=(R*A'+P*B':Nat):=by push_cast;rw [k1,k2,k4];grind
   omega
  ·omega
  ·push_cast;rw [k1,k3,k4];grind
  ·push_cast;rw [k2,k3,k4];grind
 ·simp only [if_true] at hd ⊢;obtain ⟨A',hA⟩:∃A':Nat,A'+P*α=x*S+Q*β:=⟨x*S+Q*β-P*α,by omega⟩;obtain ⟨B',hB⟩:∃B':Nat,B'+U*β=y*S+R*α:=⟨y*S+R*α-U*β,by omega⟩
  have k1 : (A' : Int) = x * S + Q * β - P * α := by have : ((A' + P * α : Nat) : Int) = (x * S + Q * β : Nat) := by rw [hA]
                                                     push_cast at this;omega
  have k2 : (B' : Int) = y * S + R * α - U * β := by have : ((B' + U * β : Nat) : Int) = (y * S + R * α : Nat) := by rw [hB]
                                                     push_cast at this;omega
  have k3:(x0:Int)=U*x+Q*y:=by rw [hx];push_cast;rfl
  have k4:(y0:Int)=R*x+P*y:=by rw [hy];push_cast;rfl
  have k5 : (Q : Int) * R = P * U + 1 := by have : ((Q * R : Nat) : Int) = (P * U + 1 : Nat) := by rw [hd]
                                            push_cast at this;exact this
  refine ⟨A',B',?_,?_,?_,?_,?_⟩
  ·have:((x0*S+α:Nat):Int)=(U*A'+Q*B':Nat):=by push_cast;rw [k1,k2,k3];grind
   omega
  ·have:((y0*S+β:Nat):Int)=(R*A'+P*B':Nat):=by push_cast;rw [k1,k2,k4];grind
   omega
  ·omega
  ·push_cast;rw [k1,k3,k4];grind
  ·push_cast;rw [k2,k3,k4];grind
theorem Tv {A' B':Nat} (h1:A=U*A'+Q*B') (h2:B=R*A'+P*B')
  (h3:(A':Int)=(if e then -1 else 1)*((P:Int)*A-(Q:Int)*B)) (h4:(B':Int)=(if e then -1 else 1)*((U:Int)*B-(R:Int)*A)):Nat.gcd A B=Nat.gcd A' B':=by
 apply Nat.dvd_antisymm
 ·have dA:(Nat.gcd A B:Int)∣A:=Int.natCast_dvd_natCast.2 (Nat.gcd_dvd_left A B);have dB:(Nat.gcd A B:Int)∣B:=Int.natCast_dvd_natCast.2 (Nat.gcd_dvd_right A B);refine Nat.dvd_gcd ?_ ?_
  ·refine Int.natCast_dvd_natCast.1 ?_;rw [h3];exact Int.dvd_mul_of_dvd_right (Int.dvd_sub (Int.dvd_mul_of_dvd_right dA) (Int.dvd_mul_of_dvd_right dB))
  ·refine Int.natCast_dvd_natCast.1 ?_;rw [h4];exact Int.dvd_mul_of_dvd_right (Int.dvd_sub (Int.dvd_mul_of_dvd_right dB) (Int.dvd_mul_of_dvd_right dA))
 ·have dA:=Nat.gcd_dvd_left A' B';have dB:=Nat.gcd_dvd_right A' B';refine Nat.dvd_gcd ?_ ?_
  ·rw [h1];exact Nat.dvd_add (Nat.dvd_mul_left_of_dvd dA U) (Nat.dvd_mul_left_of_dvd dB Q)
  ·rw [h2];exact Nat.dvd_add (Nat.dvd_mul_left_of_dvd dA R) (Nat.dvd_mul_left_of_dvd dB P)
set_option maxHeartbeats 1000000 in
theorem Tw (A B:Nat) (w:World) (hA:A<18446744073709551616) (hB:B<18446744073709551616:=by omega) :
  Calls prog 154 #[.int .u64 A,.int .u64 B] w λe w'=>e = .returned (.int .u64 (Nat.gcd A B:Nat))∧w.grownBy w' none:=by
 go_enter func154,ntmps154
 go_wp2_with fail
 go_loopw [0,1] (λav bv wr=>∃x y:Nat,av = .int .u64 x∧bv = .int .u64 y∧x<18446744073709551616∧y<18446744073709551616∧Hid (Nat.gcd x y=Nat.gcd A B)∧w.grownBy wr none) (λ_ bv _=>(intOf bv).toNat)
 case atStart=>exact ⟨A,B,rfl,rfl,hA,hB,rfl,bH _ _⟩
 case round=>
  obtain ⟨x,y,rfl,rfl,hx,hy,hg,gr⟩:=hrel;by_cases h0:y=0
  ·have b1:(((y:Nat):Int) != 0)=false:=by rw [bne_eq_false_iff_eq];omega
   go_wp2_with fail
   go_ret
   exact ⟨by rw [<- hg.out,h0,Nat.gcd_zero_right];rfl,gr⟩
  ·have b1:(((y:Nat):Int) != 0)=true:=by rw [bne_iff_ne];omega
   have b2:(((y:Nat):Int) == 0)=false:=by rw [beq_eq_false_iff_ne];omega
   have hm:x % y<y:=Nat.mod_lt _ (by omega);have hM:=hid (show ((x:Int) % (y:Int))=((x % y:Nat):Int) by push_cast;rfl);go_wp2_with fail
   go_region
   go_wp2_with fail
   go_roundw
   case rel=>exact ⟨y,x % y,rfl,int_eq (by rw [hM.out]),hy,by omega,((Nat.gcd_comm y (x % y)).trans ((Nat.gcd_rec y x).symm.trans (Nat.gcd_comm y x))).trans hg.out,bf gr (ec _ _)⟩
   case measure=>simp [intOf];omega
theorem tk {R:Ending->World->Prop}{a:Act}{r:Nat}{x y:Value} (hres:fn.results = #[ResultVar.cell r 178]) (hd:a.defers = [])
  (hr:a.tmps[r]?=some (.pointer (some ⟨g,0,none⟩)))
  (c0:w.cell? ⟨g,0,none⟩=some x) (c1:w.cell? ⟨g,1,none⟩=some y) (c2:w.cell? ⟨g,2,none⟩=some u) (c3:w.cell? ⟨g,3,none⟩=some v) (h:R (.returned (.agg #[x,y,u,v])) w):bodyPost prog fn R .ret a w:=by
 simp [bodyPost,results,hres,hr,c0,c1,c2,c3,go_sem,h,hd]
theorem fI  (h1 : -9223372036854775808<=z) (h2:z<=9223372036854775807):wrap64 z=z:=by unfold wrap64;omega
set_option maxHeartbeats 1000000 in
theorem Tx (a b c d q:Int) (w:World) (h1 : -9223372036854775808<=q*c) (h2:q*c<=9223372036854775807) (h3 : -9223372036854775808<=a-q*c) (h4:a-q*c<=9223372036854775807)
  (k1 : -9223372036854775808<=q*d) (k2:q*d<=9223372036854775807) (k4:b-q*d<=9223372036854775807) (k3:-9223372036854775808<=b-q*d:=by omega) :
  Calls prog 169 #[.agg #[.int .i64 a,.int .i64 b,.int .i64 c,.int .i64 d],.int .i64 q] w
   λe w'=>e = .returned (.agg #[.int .i64 c,.int .i64 d,.int .i64 (a-q*c),.int .i64 (b-q*d)])∧w.grownBy w' none:=by
 have E1:=hid (fI h1 h2);have E2:=hid (fI h3 h4);have E3:=hid (fI k1 k2);have E4:=hid (fI k3 k4);clear h1 h2 h3 h4 k1 k2 k3 k4;go_enter func169,ntmps169
 go_wp2_with fail
 rw [E1.out,E2.out,E3.out,E4.out];refine tk (g:=w.heap.size+1) results169 rfl rfl ?_ ?_ ?_ ?_ ⟨rfl,bf (bn _ _ _) (bn _ _ _)⟩ <;> simp [go_sem]
theorem Ty (a b c d:Int) (w:World) :
  Calls prog 158 #[.agg #[.int .i64 a,.int .i64 b,.int .i64 c,.int .i64 d]] w
   λe w'=>e = .returned (.bool (b == 0))∧w.grownBy w' none:=by
 go_enter func158,ntmps158
 go_wp2_with fail
 go_ret
 exact ⟨rfl,bn _ _ _⟩
def sE (e:Bool):Int:=if e then -1 else 1
def jl (x0 y0:Nat) (a b c d:Int) (x y:Nat):Prop:=
 ∃(e:Bool) (P Q R U:Nat),Turned x0 y0 e P Q R U x y∧a=sE e*P∧b = -(sE e*Q)∧c = -(sE e*R)∧d=sE e*U∧y<=x∧1<=U ∧
  ((P=1∧Q=0∧R=0∧U=1)∨(P<=Q∧R<=U∧Q<=U∧1<=R∧1<=Q∧U<=y∧y+(U+Q)<=x))
theorem jl.start  (h:y<=x):jl x y 1 0 0 1 x y:=⟨false,1,0,0,1,Turned.start x y,by simp [sE],by simp,by simp,by simp [sE],h,Nat.le_refl _,.inl ⟨rfl,rfl,rfl,rfl⟩⟩
theorem jl.step {a b c d:Int} (h:jl x0 y0 a b c d x y) (hy:0<y) (hx0:x0<4611686018427387904) (hyx:y0<=x0) :
  ∃L G:Nat,L<4611686018427387904∧G<4611686018427387904∧max (b-(x / y:Nat)*d) (-(b-(x / y:Nat)*d))=(L:Int)∧max d (-d)=(G:Int) ∧
   -9223372036854775808<=(x / y:Nat)*c∧(x / y:Nat)*c<=9223372036854775807 ∧ -9223372036854775808<=a-(x / y:Nat)*c∧a-(x / y:Nat)*c<=9223372036854775807 ∧
   -9223372036854775808<=(x / y:Nat)*d∧(x / y:Nat)*d<=9223372036854775807 ∧ -9223372036854775808<b-(x / y:Nat)*d∧b-(x / y:Nat)*d<=9223372036854775807 ∧ -9223372036854775808<d∧d<=9223372036854775807 ∧
   x<4611686018427387904∧y<=x∧(L<=x % y->x % y+(L+G)<=y->jl x0 y0 c d (a-(x / y:Nat)*c) (b-(x / y:Nat)*d) y (x % y)):=by
 obtain ⟨e,P,Q,R,U,ht,rfl,rfl,rfl,rfl,hxy,hU,hc⟩:=h;have hs:=ht.step;have hm:=Nat.mod_lt x hy;have hq:1<=x / y:=(Nat.one_le_div_iff hy).2 hxy;have hqx:x / y*1<=x / y*y:=Nat.mul_le_mul_left _ hy;have hqy:x / y*y<=x:=Nat.div_mul_le_self x y;generalize x / y=q at *
 generalize x % y=r at *
 have e1:x0=U*x+Q*y:=ht.hx;have e2:y0=R*x+P*y:=ht.hy;have u1:q*U<=U*x:=by rw [Nat.mul_comm];exact Nat.mul_le_mul_left U (by omega)
 have u2:q*R<=R*x:=by rw [Nat.mul_comm];exact Nat.mul_le_mul_left R (by omega)
 have u3:Q<=Q*y:=Nat.le_mul_of_pos_right Q hy;have u4:P<=P*y:=Nat.le_mul_of_pos_right P hy;have u5:U*1<=U*x:=Nat.mul_le_mul_left U (by omega);have u6:1*x<=U*x:=Nat.mul_le_mul_right x hU;have u7:1*U<=q*U:=Nat.mul_le_mul_right U hq;have u8:1*R<=q*R:=Nat.mul_le_mul_right R hq;have v1:((q:Int)*(U:Int))=((q*U:Nat):Int):=by push_cast;rfl
 have v2:((q:Int)*(R:Int))=((q*R:Nat):Int):=by push_cast;rfl
 have hnew:∀(e':Bool),e'=(!e)->Q+q*U<=r->r+(Q+q*U+U)<=y->jl x0 y0 (-(sE e*R)) (sE e*U) (sE e*P-q * -(sE e*R)) (-(sE e*Q)-q*(sE e*U)) y r:=by
  intro e' he' h1 h2;refine ⟨!e,R,U,P+q*R,Q+q*U,hs,?_,?_,?_,?_,by omega,by omega,.inr ⟨?_,?_,by omega,?_,hU,h1,by omega⟩⟩
  ·cases e <;> simp [sE]
  ·cases e <;> simp [sE]
  ·cases e <;> simp [sE] <;> grind
  ·cases e <;> simp [sE] <;> grind
  ·rcases hc with ⟨h1,h2,h3,h4⟩ | hc
   ·omega
   ·omega
  ·rcases hc with ⟨h1,h2,h3,h4⟩ | hc
   ·subst h1 h2 h3 h4;omega
   ·have:=Nat.mul_le_mul_left q hc.2.1;omega
  ·rcases hc with ⟨h1,h2,h3,h4⟩ | hc
   ·omega
   ·omega
 refine ⟨Q+q*U,U,by omega,by omega,?_,?_,?_,?_,?_,?_,?_,?_,?_,?_,?_,?_,by omega,hxy,hnew _ rfl⟩
 all_goals (cases e <;> simp only [sE,Bool.false_eq_true,if_false,if_true,Int.one_mul,Int.neg_mul,Int.neg_neg,Int.mul_neg,v1,v2] <;> omega)
def Ep (a b c d:Int):Nat->Value:=λj=>if j=0 then .int .i64 a else if j=1 then .int .i64 b else if j=2 then .int .i64 c else .int .i64 d
def Four (w:World) (g:Nat) (a b c d:Int):Prop:=aN w 178 g 4 (Ep a b c d)
theorem Four.made (w:World) (a b c d:Int):Four (w.alloc (.cells #[.int .i64 a,.int .i64 b,.int .i64 c,.int .i64 d] 178)) w.heap.size a b c d:=
 aN.made w _ _ _ (λj hj=>by
  have:j=0∨j=1∨j=2∨j=3:=by simp at hj;omega
  rcases this with rfl | rfl | rfl | rfl <;> rfl)
theorem Four.c0 {a b c d:Int} (h:Four w g a b c d):w.cell? ⟨g,0,none⟩=some (.int .i64 a):=aN.cell h (by omega)
theorem Four.c1 {a b c d:Int} (h:Four w g a b c d):w.cell? ⟨g,1,none⟩=some (.int .i64 b):=aN.cell h (by omega)
theorem Four.c2 {a b c d:Int} (h:Four w g a b c d):w.cell? ⟨g,2,none⟩=some (.int .i64 c):=aN.cell h (by omega)
theorem Four.c3 {a b c d:Int} (h:Four w g a b c d):w.cell? ⟨g,3,none⟩=some (.int .i64 d):=aN.cell h (by omega)
theorem Four.grown {a b c d:Int} (h:Four w g a b c d) (hg:w.grownBy w' none):Four w' g a b c d:=aN.grown h hg (by simp)
def xg (w:World) (g:Nat) (a b c d:Int):World:=(((w.setCell ⟨g,0,none⟩ (.int .i64 a)).setCell ⟨g,1,none⟩ (.int .i64 b)).setCell ⟨g,2,none⟩ (.int .i64 c)).setCell ⟨g,3,none⟩ (.int .i64 d)
theorem Four.set {a b c d:Int} (h:Four w g a b c d) (a' b' c' d':Int):Four (xg w g a' b' c' d') g a' b' c' d':=by
 refine ((((aN.set h 0 _).set 1 _).set 2 _).set 3 _).congr λj hj=>?_;have:j=0∨j=1∨j=2∨j=3:=by omega
 rcases this with rfl | rfl | rfl | rfl <;> simp [upd,Ep]
theorem Four.jA {g':Nat}{a b c d:Int} (h:Four w g a b c d) (hne:g'≠g) (a' b' c' d':Int):Four (xg w g' a' b' c' d') g a b c d:=
 (((aN.jA h (a:=⟨g',0,none⟩) hne _).jA (a:=⟨g',1,none⟩) hne _).jA (a:=⟨g',2,none⟩) hne _).jA (a:=⟨g',3,none⟩) hne _
theorem tm (w:World) (g:Nat) (a b c d:Int):w.grownBy (xg w g a b c d) (some g):=
 bf (bf (bf (cI _ _ _ _) (cI _ _ _ _)) (cI _ _ _ _)) (cI _ _ _ _)
def Tz (x0 y0:Nat) (w:World) (e:Ending) (w':World):Prop:=∃(a b c d:Int) (x y:Nat),e = .returned (.agg #[.int .i64 a,.int .i64 b,.int .i64 c,.int .i64 d])∧jl x0 y0 a b c d x y∧w.grownBy w' none
theorem TA (x y:Nat) (hx:x<4611686018427387904):wrap64 ((x:Int) / (y:Int))=((x / y:Nat):Int):=by
 have h1:=Nat.div_le_self x y;rw [show ((x:Int) / (y:Int))=((x / y:Nat):Int) by push_cast;rfl];generalize x / y=z at *
 exact fI (by omega) (by omega)
theorem TB (x y:Nat) (hx:x<4611686018427387904:=by omega):wrap64 ((x:Int)-wrap64 (((x / y:Nat):Int)*(y:Int)))=((x % y:Nat):Int):=by
 have h1:=Nat.div_mul_le_self x y;have h3:=Nat.div_add_mod x y;rw [Nat.mul_comm] at h3;rw [show (((x / y:Nat):Int)*(y:Int))=((x / y*y:Nat):Int) by push_cast;rfl];generalize x / y*y=p at *
 generalize x % y=r at *
 have e:wrap64 (p:Int)=p:=fI (by omega) (by omega);rw [e,fI (by omega) (by omega)];omega
theorem Eq {d L:Int} (hw:wrap64 (-d) = -d) (h:max d (-d)=L):(if d<wrap64 (-d) then wrap64 (-d) else d)=L:=by rw [hw];split <;> omega
theorem Four.drew {a b c d:Int} (h:Four w g a b c d):Four w.drew g a b c d:=h.grown (ec _ _)
set_option maxHeartbeats 2000000 in
theorem TC (x0 y0:Nat) (w:World) (hyx:y0<=x0) (hx0:x0<4611686018427387904) :
  Calls prog 156 #[.int .i64 x0,.int .i64 y0] w
   (Tz x0 y0 w):=by
 obtain ⟨gr,hgr⟩:∃gr,w.heap.size=gr:=⟨_,rfl⟩;obtain ⟨gt,hgt⟩:∃gt,gr+1=gt:=⟨_,rfl⟩;have Hgr:=hid hgr;have Hgt:=hid hgt;clear hgr hgt;go_enter func156,ntmps156
 go_wp2_with fail
 rw [Hgr.out,Hgt.out];go_loopw [0,1] (λxv yv wr=>∃(x y:Nat) (a b c d:Int),xv = .int .i64 x∧yv = .int .i64 y∧Hid (jl x0 y0 a b c d x y)∧Four wr gr 0 0 0 0∧Four wr gt a b c d∧w.grownBy wr none) (λ_ yv _=>(intOf yv).toNat)
 case atStart=>
  refine ⟨x0,y0,1,0,0,1,rfl,rfl,jl.start hyx,?_,?_,bf (bn _ _ _) (bn _ _ _)⟩
  ·rw [<- Hgr.out];exact (Four.made w 0 0 0 0).grown (bn _ _ _)
  ·have h:=Four.made (w.alloc (.cells #[.int .i64 0,.int .i64 0,.int .i64 0,.int .i64 0] 178)) 1 0 0 1;rw [World.size_alloc,Hgr.out,Hgt.out] at h;exact h
 case round=>
  obtain ⟨x,y,a,b,c,d,rfl,rfl,ht,hR,hT,hg⟩:=hrel;have Er:=aN.frozen hR 0;have Es:=aN.frozen hR 1;have Et:=aN.frozen hR 2;have fr3:=aN.frozen hR 3;have Eu:=aN.frozen hT 0;have Ev:=aN.frozen hT 1;have Ew:=aN.frozen hT 2;have Ey:=aN.frozen hT 3;have r0:=hR.c0;have r1:=hR.c1;have r2:=hR.c2;have r3:=hR.c3;have t0:=hT.c0;have t1:=hT.c1;have t2:=hT.c2;have t3:=hT.c3;have HR:=hid hR;have HT:=hid hT;clear hR hT;by_cases h0:y=0
  ·have b1:¬(0:Int)<(y:Int):=by omega
   go_wp2_with fail
   refine tk (g:=gr) results156 rfl rfl (HR.out.set a b c d).c0 (HR.out.set a b c d).c1 (HR.out.set a b c d).c2 (HR.out.set a b c d).c3 ⟨a,b,c,d,x,y,rfl,ht.out,di hg (tm _ _ _ _ _ _) (by have:=Hgr.out;omega)⟩
  ·have b1:(0:Int)<(y:Int):=by omega
   have b2:(((y:Nat):Int) == 0)=false:=by rw [beq_eq_false_iff_ne];omega
   obtain ⟨L,G,hL,hG,m1,m2,s1,s2,s3,s4,s5,s6,s7,s8,s9,s10,hx,aix,hn⟩:=ht.out.step (by omega) hx0 hyx;have hq:=hid (show ((x:Int) / (y:Int))=((x / y:Nat):Int) by push_cast;rfl);have hr:=TB x y;have hm:x % y<y:=Nat.mod_lt _ (by omega);have hq':wrap64 ((x:Int) / (y:Int))=(x:Int) / (y:Int):=by rw [TA x y hx,hq.out]
   go_wp2_with fail
   have hw:=hid (show wrap64 ((x / y:Nat):Int)=((x / y:Nat):Int) by rw [<- hq.out];exact hq');rw [hq.out]
   first | rw [hw.out] | skip
   clear hq' hw;have Ez:=hid (show ((x / y:Nat):Int)*(y:Int)+((x % y:Nat):Int)=(x:Int) by
    have h3:=Nat.div_add_mod x y;rw [Nat.mul_comm] at h3;have:((x / y*y+x % y:Nat):Int)=(x:Int):=by rw [h3]
    push_cast at this;push_cast;exact this)
   generalize x / y=q at *
   generalize x % y=r at *
   have st:=Tx a b c d q wr s1 s2 s3 s4 s5 s6 s8
   with_reducible refine st.mono ?_
   rintro e w2 ⟨rfl,g2⟩;generalize a-(q:Int)*c=c' at *
   generalize b-(q:Int)*d=d' at *
   have Hr:=hid hr;have Hn:=hid hn;have M1:=hid m1;have M2:=hid m2;have N1:=hid (show wrap64 (-d') = -d' from fI (by omega) (by omega));have N2:=hid (show wrap64 (-d) = -d from fI (by omega) (by omega));clear hr hn m1 m2 s1 s2 s3 s4 s5 s6 s7 s8 s9 s10 r0 r1 r2 r3 t0 t1 t2 t3 Er Es Et fr3 Eu Ev Ew Ey hq;replace HR:=hid (HR.out.grown g2);replace HT:=hid (HT.out.grown g2);have G2:=hid (bf hg g2);clear hg g2;go_upto_region 6 with fail
   have xh:=hid (show ((x:Int)-(q:Int)*(y:Int))=(r:Int) by have:=Ez.out;omega);have Hr2:=hid (show wrap64 ((x:Int)-(q:Int)*(y:Int))=(r:Int) by rw [xh.out];exact fI (by omega) (by omega))
   first | rw [Hr.out] | rw [Hr2.out] | rw [xh.out]
   obtain ⟨gn,hgn⟩:∃gn,w2.heap.size=gn:=⟨_,rfl⟩;rw [hgn];obtain ⟨w3,hw3⟩:∃w3,w2.alloc (.cells #[.int .i64 c,.int .i64 d,.int .i64 c',.int .i64 d'] 178)=w3:=⟨_,rfl⟩;rw [hw3];have HN:=Four.made w2 c d c' d';have g3:=bn w2 (.cells #[.int .i64 c,.int .i64 d,.int .i64 c',.int .i64 d'] 178) none;rw [hgn,hw3] at HN;rw [hw3] at g3;replace HR:=hid (HR.out.grown g3);have ne:gt≠gn:=by have:=aN.lt HT.out;omega
   have hT:=HT.out.grown g3;clear HT;have G3:=hid (bf G2.out g3);clear hw3 g3 G2;have n0:=HN.c0;have n1:=HN.c1;have n2:=HN.c2;have n3:=HN.c3;go_region
   rw [Eq N1.out M1.out,Eq N2.out M2.out];clear n0 n1 n2 n3;have r0:=HR.out.c0;have r1:=HR.out.c1;have r2:=HR.out.c2;have r3:=HR.out.c3;have t0:=hT.c0;have t1:=hT.c1;have t2:=hT.c2;have t3:=hT.c3;have n0:=HN.c0;have n1:=HN.c1;have n2:=HN.c2;have n3:=HN.c3;have Er:=aN.frozen HR.out 0;have Es:=aN.frozen HR.out 1;have Et:=aN.frozen HR.out 2;have fr3:=aN.frozen HR.out 3;have Eu:=aN.frozen hT 0;have Ev:=aN.frozen hT 1;have Ew:=aN.frozen hT 2;have Ey:=aN.frozen hT 3;have HT:=hid hT;have HN':=hid HN;clear hT HN Ez Hr Hr2 xh N1 N2 M1 M2 st;by_cases k1:r<L
   ·have k1':(r:Int)<(L:Int):=by omega
    go_wp2_with fail
    refine tk (g:=gr) results156 rfl rfl (HR.out.drew.set a b c d).c0 (HR.out.drew.set a b c d).c1 (HR.out.drew.set a b c d).c2 (HR.out.drew.set a b c d).c3 ⟨a,b,c,d,x,y,rfl,ht.out,di (bf G3.out (ec _ _)) (tm _ _ _ _ _ _) (by have:=Hgr.out;omega)⟩
   ·have k1':¬(r:Int)<(L:Int):=by omega
    by_cases k2:y<r+(L+G)
    ·have k2':(y:Int)-(r:Int)<(L:Int)+(G:Int):=by omega
     go_wp2_with fail
     refine tk (g:=gr) results156 rfl rfl (HR.out.drew.set a b c d).c0 (HR.out.drew.set a b c d).c1 (HR.out.drew.set a b c d).c2 (HR.out.drew.set a b c d).c3 ⟨a,b,c,d,x,y,rfl,ht.out,di (bf G3.out (ec _ _)) (tm _ _ _ _ _ _) (by have:=Hgr.out;omega)⟩
    ·have k2':¬(y:Int)-(r:Int)<(L:Int)+(G:Int):=by omega
     go_wp2_with fail
     go_roundw
     case rel=>exact ⟨y,r,c,d,c',d',rfl,rfl,Hn.out (by omega) (by omega),HR.out.drew.jA (by have:=Hgt.out;omega) _ _ _ _,HT.out.drew.set _ _ _ _,di (bf G3.out (ec _ _)) (tm _ _ _ _ _ _) (by have:=Hgr.out;have:=Hgt.out;omega)⟩
     case measure=>simp [intOf];omega
theorem tq (b:Nat) (xs:List Nat) (k:Nat):val b (xs.drop k)=nth xs k+b*val b (xs.drop (k+1)):=by
 rcases Nat.lt_or_ge k xs.length with h | h
 ·exact fJ b xs h
 ·rw [List.drop_of_length_le h,List.drop_of_length_le (by omega),eV _ (h:=h)];simp [val]
theorem xi {b:Nat} (hb:0<b) (ha:All b xs) (k:Nat):val b xs / b ^ k=val b (xs.drop k):=by
 rcases Nat.lt_or_ge xs.length k with h | h
 ·rw [List.drop_of_length_le (by omega),Nat.div_eq_of_lt (Nat.lt_of_lt_of_le (ff ha) (Nat.pow_le_pow_right hb (by omega)))];rfl
 ·exact (TD ha h).symm
theorem EA  (ax:All 4294967296 xs){top:Nat} (hn:xs.length<=top+1) (h2:2<=top) (hl:lead<32) :
  val 4294967296 xs / 2 ^ (32*(top-2)+(34-lead))=((nth xs top*4294967296+nth xs (top-1))*2 ^ lead+nth xs (top-2) / 2 ^ (32-lead)) / 4:=by
 have e1:2 ^ (32*(top-2)+(34-lead))=4294967296 ^ (top-2)*(2 ^ (32-lead)*4):=by rw [Nat.pow_add,Nat.pow_mul,show 34-lead=32-lead+2 by omega,Nat.pow_add]
 have e2:val 4294967296 (xs.drop (top-2))=nth xs (top-2)+4294967296*(nth xs (top-1)+4294967296*nth xs top):=by rw [tq,show top-2+1=top-1 by omega,tq _ _ (top-1),show top-1+1=top by omega,tq _ _ top,List.drop_of_length_le (by omega)];simp [val]
 have e3:4294967296=2 ^ (32-lead)*2 ^ lead:=by rw [<- Nat.pow_add,show 32-lead+lead=32 by omega]
 rw [e1,<- Nat.div_div_eq_div_mul,xi (by omega) ax,e2,<- Nat.div_div_eq_div_mul];congr 1;have e4:nth xs (top-2)+4294967296*(nth xs (top-1)+4294967296*nth xs top)=nth xs (top-2)+2 ^ (32-lead)*((nth xs top*4294967296+nth xs (top-1))*2 ^ lead):=by
  have:4294967296*(nth xs (top-1)+4294967296*nth xs top)=2 ^ (32-lead)*2 ^ lead*(nth xs (top-1)+4294967296*nth xs top):=by rw [<- e3]
  rw [this];grind
 rw [e4,Nat.add_mul_div_left _ _ (Nat.pow_pos (by omega)),Nat.add_comm]
theorem EB  (hl:lead<32):2 ^ lead*2 ^ (32-lead)=4294967296:=by rw [<- Nat.pow_add,show lead+(32-lead)=32 by omega]
theorem EC {p:Nat} (hp:p<4294967296) (hl:lead<32):p / 2 ^ (32-lead)<2 ^ lead:=
 (Nat.div_lt_iff_lt_mul (Nat.pow_pos (by omega))).2 (by rw [EB hl];exact hp)
theorem ED {p0 p1:Nat} (h0:p0*2 ^ lead<4294967296) (h1:p1<4294967296) (hl:lead<32):(p0*4294967296+p1)*2 ^ lead+2 ^ lead<=18446744073709551616:=by
 have e:=EB hl;have hp:0<2 ^ lead:=Nat.pow_pos (by omega);have h2:p0<2 ^ (32-lead):=by refine Nat.lt_of_mul_lt_mul_left (a:=2 ^ lead) ?_;rw [e,Nat.mul_comm];exact h0
 have h3:(p0+1)*2 ^ lead<=4294967296:=by rw [<- e,Nat.mul_comm (2 ^ lead)];exact Nat.mul_le_mul_right _ (by omega)
 have h4:(p0*4294967296+p1)*2 ^ lead+2 ^ lead=(p0*4294967296+p1+1)*2 ^ lead:=by rw [Nat.add_mul _ 1,Nat.one_mul]
 have h5:(p0*4294967296+p1+1)*2 ^ lead<=((p0+1)*4294967296)*2 ^ lead:=Nat.mul_le_mul_right _ (by omega);have h6:((p0+1)*4294967296)*2 ^ lead=(p0+1)*2 ^ lead*4294967296:=by rw [Nat.mul_right_comm]
 omega
theorem EE {D p:Nat} (h:D*2 ^ lead+2 ^ lead<=18446744073709551616) (hp:p<4294967296) (hl:lead<32):D*2 ^ lead+p / 2 ^ (32-lead)<18446744073709551616:=by have:=EC hp hl;omega
theorem TE (D p lead:Nat) (h:D*2 ^ lead+2 ^ lead<=18446744073709551616) (hp:p<4294967296) (hl:lead<32) :
  bits .or .u64 (IntKind.u64.wrap ((D:Int)*2 ^ lead)) ((p:Int) / 2 ^ (32-lead))=((D*2 ^ lead+p / 2 ^ (32-lead):Nat):Int):=by
 have h1:=EC hp hl;have h0:0<2 ^ lead:=Nat.pow_pos (by omega);have e1:((D:Int)*2 ^ lead)=((D*2 ^ lead:Nat):Int):=by push_cast;rfl
 have e2:((p:Int) / 2 ^ (32-lead))=((p / 2 ^ (32-lead):Nat):Int):=by push_cast;rfl
 rw [e1,e2];have e3:IntKind.u64.wrap ((D*2 ^ lead:Nat):Int)=((D*2 ^ lead:Nat):Int):=by
  generalize D*2 ^ lead=z at *
  rw [IntKind.wrap_u64];omega
 rw [e3,u64_or_nat _ _ (by omega) (by omega),nat_join lead _ _ (Nat.mul_mod_left _ _) h1]
theorem TF (n:Nat) (h:n<18446744073709551616):wrap64 ((n:Int) / 4)=((n / 4:Nat):Int):=by rw [fI (by omega) (by omega)];omega
def part (xs:List Nat) (top k:Nat):Nat->Value:=λj=>.int .u32 ((if j<k then nth xs (top-j) else 0:Nat):Int)
set_option maxHeartbeats 2000000 in
theorem EF  (top lead:Nat) (hx:Sl w .u32 s xs) (ax:All 4294967296 xs) (hn:xs.length<=top+1) (hl:lead<32)
  (hs:nth xs top*2 ^ lead<4294967296) (h2:2<=top:=by omega) (ht:top<=8796093022208:=by omega) :
  Calls prog 171 #[s,.int .i64 top,.int .i64 lead] w
   λe w'=>e = .returned (.int .i64 ((val 4294967296 xs / 2 ^ (32*(top-2)+(34-lead)):Nat):Int))∧w.grownBy w' none:=by
 obtain ⟨p,cap,rfl,h1,h2',h3⟩:=id hx;obtain ⟨g,hg⟩:∃g,w.heap.size=g:=⟨_,rfl⟩;obtain ⟨m,hm⟩:∃m,xs.length=m:=⟨_,rfl⟩;have Hg:=hid hg;have Hm:=hid hm;have Ax:=hid ax;have Hs:=hid hs;have H3:=hid h3;have WV:=hid (EA ax hn h2 hl);rw [hm] at hn h1 ⊢;have m1:m<=9223372036854775807:=by omega
 clear hx ax hg hm hs h3;go_enter func171,ntmps171
 go_wp2_with fail
 rw [Hg.out];go_loopw [10] (λi wr=>∃k:Nat,k<=3∧i = .int .i64 k∧aN wr 202 g 3 (part xs top k)∧w.grownBy wr none) (λi _=>3-(intOf i).toNat)
 case atStart=>
  refine ⟨0,by omega,rfl,?_,bn _ _ _⟩;rw [<- Hg.out];refine aN.made w _ _ _ (λj hj=>?_);have:j=0∨j=1∨j=2:=by simp at hj;omega
  rcases this with rfl | rfl | rfl <;> rfl
 case round=>
  obtain ⟨k,hk,rfl,hr,gr⟩:=hrel;by_cases hk3:k<3
  ·have i1:(k:Int)<3:=by omega
   have f1:=aN.frozen hr k;have ck:=aN.cell hr hk3;generalize part xs top k k=pv at ck;have HR:=hid hr;clear hr;by_cases hb:top-k<m
   ·have i2:(top:Int)-(k:Int)<(m:Int):=by omega
    have i3:(0:Int)<=(top:Int)-(k:Int):=by omega
    rcases H3.out with h3 | ⟨b,off,rfl,hbl,hyx⟩
    ·have:=Hm.out;rw [h3] at this;simp at this;omega
    have c1:=cell_grown gr (hyx (top-k) (by rw [Hm.out];omega));have e1:((top:Int)-(k:Int)).toNat=top-k:=by omega
    clear hyx;go_wp2_with fail
    go_roundw
    case rel=>
     refine ⟨k+1,by omega,by go_num,(aN.set HR.out k _).congr λj hj=>?_,di gr (cI _ _ _ _) (by have:=Hg.out;omega)⟩;by_cases hjk:j=k
     ·subst hjk;rw [kj];simp [part]
     ·rw [upd_ne _ _ hjk];simp only [part,show (j<k+1)=(j<k) from propext (by omega)]
    case measure=>simp [intOf];omega
   ·have i2:¬(top:Int)-(k:Int)<(m:Int):=by omega
    have hz:nth xs (top-k)=0:=eV _ (h:=(by rw [Hm.out];omega));go_wp2_with fail
    go_roundw
    case rel=>
     refine ⟨k+1,by omega,by go_num,HR.out.congr λj hj=>?_,gr⟩;by_cases hjk:j=k
     ·subst hjk;simp [part,hz]
     ·simp only [part,show (j<k+1)=(j<k) from propext (by omega)]
    case measure=>simp [intOf];omega
  ·obtain rfl:k=3:=by omega
   have c0:=aN.cell hr (j:=0) (by omega);have c1:=aN.cell hr (j:=1) (by omega);have c2:=aN.cell hr (j:=2) (by omega);simp only [part,show (0:Nat)<3 by omega,show (1:Nat)<3 by omega,show (2:Nat)<3 by omega,if_true,Nat.sub_zero] at c0 c1 c2;have b0:=cm (by omega) Ax.out top;have b1:=cm (by omega) Ax.out (top-1);have b2:=cm (by omega) Ax.out (top-2);have j1:(0:Int)<=32-(lead:Int):=by omega
   have j2:((32:Int)-(lead:Int)).toNat=32-lead:=by omega
   go_wp2_with fail
   rw [rZ _ _ b0 b1];obtain ⟨D,hD⟩:∃D,nth xs top*4294967296+nth xs (top-1)=D:=⟨_,rfl⟩;rw [show (nth xs top:Int)*4294967296+(nth xs (top-1):Int)=(D:Int) by rw [<- hD,Int.natCast_add,Int.natCast_mul];rfl];go_region
   go_wp2_with fail
   have hlt:=ED (Hs.out) b1 hl;rw [hD] at hlt;have hv:=WV.out;rw [hD] at hv;rw [TE D (nth xs (top-2)) lead hlt b2 hl,hv];have hW:=TF _ (EE hlt b2 hl);rw [hW];go_ret
   exact ⟨rfl,bf gr (ec _ _)⟩
def TG (w:World) (X Y:Nat) (e:Ending) (w':World):Prop:=∃s:Nat,e = .returned (.tuple #[.int .i64 ((X / 2 ^ s:Nat):Int),.int .i64 ((Y / 2 ^ s:Nat):Int)])∧X / 2 ^ s<4611686018427387904∧w.grownBy w' none
set_option maxHeartbeats 1000000 in
theorem TH {q:Option Addr} (hx:Sl w .u32 (.slice p n cap) xs) (hy:Sl w .u32 (.slice q m cap') ys) (ax:All 4294967296 xs) (ay:All 4294967296 ys)
  (h3:3<=xs.length) (hl:xs.length<=8796093022208) (htop:nth xs (xs.length-1)≠0) (hyx:val 4294967296 ys<=val 4294967296 xs) (hly:ys.length<=xs.length) :
  Calls prog 157 #[.slice p n cap,.slice q m cap'] w (TG w (val 4294967296 xs) (val 4294967296 ys)):=by
 obtain ⟨p',c',e,k1,k2,k3⟩:=id hx;simp only [Value.slice.injEq] at e;obtain ⟨rfl,rfl,rfl⟩:=e;obtain ⟨N,hN⟩:∃N,xs.length=N:=⟨_,rfl⟩;rw [hN] at hx h3 hl htop hly k1 ⊢;rcases k3 with k3 | ⟨b,off,rfl,hbl,hyy⟩
 ·rw [k3] at hN;simp at hN;omega
 have b0:=cm (by omega) ax (N-1);obtain ⟨s,hs1,hs2,hs3,hs4⟩:=EG (Nat.pos_of_ne_zero htop) b0;have c1:w.cell? ⟨b,off+(N-1),none⟩=some (.int .u32 (nth xs (N-1))):=hyy _ (by omega);have vy:nth ys (N-1)<=nth xs (N-1):=by have e1:=xi (by omega) ax (N-1);have e2:=xi (by omega) ay (N-1);rw [tq,List.drop_of_length_le (by omega)] at e1 e2;simp only [val,Nat.mul_zero,Nat.add_zero] at e1 e2;rw [<- e1,<- e2];exact Nat.div_le_div_right hyx
 have EH:nth ys (N-1)*2 ^ s<4294967296:=Nat.lt_of_le_of_lt (Nat.mul_le_mul_right _ vy) hs3;have EI:val 4294967296 xs / 2 ^ (32*(N-1-2)+(34-s))<4611686018427387904:=by rw [EA ax (top:=N-1) (by omega) (by omega) hs2];have h1:=EE (ED hs3 (cm (by omega) ax (N-1-1)) hs2) (cm (by omega) ax (N-1-2)) hs2;omega
 have Hx:=hid hx;have Hy:=hid hy;have Ax:=hid ax;have Ay:=hid ay;have HN:=hid hN;have Hs1:=hid hs1;have Hs3:=hid hs3;have Hs4:=hid EH;have Wl:=hid EI;have tp:((N:Int)-1)=((N-1:Nat):Int):=by omega
 have Tp:=hid tp;have i1:(N:Int)-1<(N:Int):=by omega
 clear hx hy ax ay hN hs1 hs3 hs4 EH EI tp vy htop hyx hyy;go_enter func157,ntmps157
 go_wp2_with fail
 refine (AE _ _).mono ?_;rintro e w' ⟨rfl,rfl⟩;rw [Hs1.out,Tp.out];go_wp2_with fail
 refine (EF (N-1) s Hx.out Ax.out (by rw [HN.out];omega) hs2 Hs3.out).mono ?_;rintro e w1 ⟨rfl,g1⟩;go_wp2_with fail
 refine (EF (N-1) s (Hy.out.grown g1 (.inl rfl)) Ay.out (by omega) hs2 Hs4.out).mono ?_;rintro e w2 ⟨rfl,g2⟩;go_wp2_with fail
 go_ret2
 exact ⟨_,rfl,Wl.out,bf g1 g2⟩
theorem b32:((4294967296:Nat):Int)=4294967296:=rfl
def icC (a b:Int) (f g:Nat->Nat):Nat->Int
 | 0=>0
 | k+1=>(icC a b f g k+(a*f k+b*g k)) / 4294967296
def ip (a b:Int) (f g:Nat->Nat) (k:Nat):Nat:=((icC a b f g k+(a*f k+b*g k)) % 4294967296).toNat
theorem xj (a b:Int) (f g:Nat->Nat) (k:Nat):ip a b f g k<4294967296:=by unfold ip;omega
theorem xk (a b:Int) (f g:Nat->Nat) (k:Nat):(ip a b f g k:Int)=(icC a b f g k+(a*f k+b*g k)) % 4294967296:=by unfold ip;omega
theorem TI (a b:Int) (f g:Nat->Nat) (k:Nat) :
  (val 4294967296 (pre (ip a b f g) k):Int)+4294967296 ^ k*icC a b f g k=a*(val 4294967296 (pre f k):Int)+b*(val 4294967296 (pre g k):Int):=by
 induction k with
 | zero=>simp [pre,val,icC]
 | succ k ih=>
  rw [ft,ft,ft];have e:=Int.emod_add_mul_ediv (icC a b f g k+(a*f k+b*g k)) 4294967296;rw [<- xk] at e;simp only [icC];generalize (icC a b f g k+(a*f k+b*g k)) / 4294967296=q at *
  generalize (ip a b f g k)=r at *
  simp only [Int.natCast_add,Int.natCast_mul,Int.natCast_pow,b32];rw [Int.pow_succ];generalize (4294967296:Int) ^ k=M at *
  grind
def Opp (a b:Int):Prop:=(0<=a∧a<=2147483647 ∧ -2147483647<=b∧b<=0)∨(0<=b∧b<=2147483647 ∧ -2147483647<=a∧a<=0)
theorem xm {a:Int} (h0:0<=a) (h1:a<=2147483647) (hx:x<4294967296):0<=a*x∧a*x<=9223372030412324865:=by refine ⟨Int.mul_nonneg h0 (by omega),?_⟩;have:=Int.mul_le_mul h1 (show (x:Int)<=4294967295 by omega) (by omega) (by omega);omega
theorem EJ {a:Int} (h0:a<=0) (h1 : -2147483647<=a) (hx:x<4294967296) : -9223372030412324865<=a*x∧a*x<=0:=by have:=xm (a:=-a) (x:=x) (by omega) (by omega) hx;rw [Int.neg_mul] at this;omega
theorem Opp.ops {a b o:Int} (h:Opp a b) (hx:x<4294967296) (hy:y<4294967296) (o1 : -2147483648<=o) (o2:o<2147483648) :
  wrap64 (a*x)=a*x∧wrap64 (b*y)=b*y∧wrap64 (a*x+b*y)=a*x+b*y∧wrap64 (o+(a*x+b*y))=o+(a*x+b*y) ∧
   -2147483648<=(o+(a*x+b*y)) / 4294967296∧(o+(a*x+b*y)) / 4294967296<2147483648:=by
 rcases h with ⟨h1,h2,h3,h4⟩ | ⟨h1,h2,h3,h4⟩
 ·have p:=xm h1 h2 hx;have n:=EJ h4 h3 hy;refine ⟨fI ?_ ?_,fI ?_ ?_,fI ?_ ?_,fI ?_ ?_,?_,?_⟩ <;> omega
 ·have p:=xm h1 h2 hy;have n:=EJ h4 h3 hx;refine ⟨fI ?_ ?_,fI ?_ ?_,fI ?_ ?_,fI ?_ ?_,?_,?_⟩ <;> omega
theorem EK {a b:Int} (h:Opp a b){f g:Nat->Nat} (hf:∀j,f j<4294967296) (hg:∀j,g j<4294967296) (k:Nat) : -2147483648<=icC a b f g k∧icC a b f g k<2147483648:=by
 induction k with
 | zero=>simp [icC]
 | succ k ih=>
  have:=h.ops (hf k) (hg k) ih.1 ih.2;exact ⟨this.2.2.2.2.1,this.2.2.2.2.2⟩
theorem EL {a b:Int} (hn:ys.length=n) (hA:A<4294967296 ^ n) (he:(A:Int)=a*(val 4294967296 xs:Int)+b*(val 4294967296 ys:Int)) (hx:n<=xs.length:=by omega) :
  val 4294967296 (pre (ip a b (nth xs) (nth ys)) n)=A:=by
 have e:=TI a b (nth xs) (nth ys) n;have e2:=gx 4294967296 xs (h:=hx);rw [xn _ hx] at e;rw [fi 4294967296 ys (k:=n) (by omega)] at e;have hlt:=ff (gJ (b:=4294967296) (f:=ip a b (nth xs) (nth ys)) (k:=n) (λj _=>xj _ _ _ _ _));rw [dW] at hlt;generalize val 4294967296 (pre (ip a b (nth xs) (nth ys)) n)=V at *
 generalize icC a b (nth xs) (nth ys) n=c at *
 generalize val 4294967296 (xs.take n)=T at *
 generalize val 4294967296 (xs.drop n)=D at *
 rw [e2] at he;have e3:(A:Int)-V=((4294967296 ^ n:Nat):Int)*(c+a*D):=by
  simp only [Int.natCast_add,Int.natCast_mul,Int.natCast_pow,b32] at he ⊢;generalize (4294967296:Int) ^ n=M at *
  grind
 generalize 4294967296 ^ n=M at *
 generalize c+a*(D:Int)=z at *
 have h1:z=0:=by
  rcases Int.lt_trichotomy z 0 with h | h | h
  ·have:=Int.mul_le_mul_of_nonneg_left (show z<=-1 by omega) (show (0:Int)<=M by omega);omega
  ·exact h
  ·have:=Int.mul_le_mul_of_nonneg_left (show 1<=z by omega) (show (0:Int)<=M by omega);omega
 rw [h1] at e3;omega
def TJ (w:World) (A B:Nat) (e:Ending) (w':World):Prop:=
 ∃v u,e = .returned (.tuple #[v,u])∧Own w' 106 .u32 w.heap.size v (an 4294967296 A)∧Own w' 106 .u32 w.heap.size u (an 4294967296 B)∧w.grownBy w' none
set_option maxHeartbeats 4000000 in
theorem TK {q:Option Addr}{m1 m2:Nat}{a b c d:Int} (hx:Sl w .u32 (.slice p m1 cap) xs) (hy:Sl w .u32 (.slice q m2 cap') ys) (ax:All 4294967296 xs) (ay:All 4294967296 ys)
  (hl:ys.length<=8796093022208) (hn:ys.length<=xs.length) (o1:Opp a b) (o2:Opp c d)
  (eA:(A:Int)=a*(val 4294967296 xs:Int)+b*(val 4294967296 ys:Int)) (eB:(B:Int)=c*(val 4294967296 xs:Int)+d*(val 4294967296 ys:Int)) (hA:A<4294967296 ^ ys.length:=by omega) (hB:B<4294967296 ^ ys.length:=by omega) :
  Calls prog 160 #[.agg #[.int .i64 a,.int .i64 b,.int .i64 c,.int .i64 d],.slice p m1 cap,.slice q m2 cap'] w (TJ w A B):=by
 obtain ⟨i0,hi,hz0,hz1,hz2⟩:=info_parts Tryz.infoU;obtain ⟨p',c',e,k1,k2,k3⟩:=id hx;simp only [Value.slice.injEq] at e;obtain ⟨rfl,rfl,rfl⟩:=e;obtain ⟨q',d',e,l1,l2,l3⟩:=id hy;simp only [Value.slice.injEq] at e;obtain ⟨rfl,rfl,rfl⟩:=e;obtain ⟨m,hm⟩:∃m,xs.length=m:=⟨_,rfl⟩;obtain ⟨n,hn'⟩:∃n,ys.length=n:=⟨_,rfl⟩;have vA:=EL hn' (by rw [<- hn'];exact hA) eA;have vB:=EL hn' (by rw [<- hn'];exact hB) eB;obtain ⟨C,hC⟩:∃C,pre (ip a b (nth xs) (nth ys)) n=C:=⟨_,rfl⟩;obtain ⟨D,hD⟩:∃D,pre (ip c d (nth xs) (nth ys)) n=D:=⟨_,rfl⟩;rw [hC] at vA;rw [hD] at vB;have HCn:=hid (show ∀j,j<n->nth C j=ip a b (nth xs) (nth ys) j from λj hj=>by rw [<- hC];exact fR _ hj);have HDn:=hid (show ∀j,j<n->nth D j=ip c d (nth xs) (nth ys) j from λj hj=>by rw [<- hD];exact fR _ hj);have HC1:=hid (show C.length=n∧All 4294967296 C from ⟨by rw [<- hC,dW],by rw [<- hC];exact gJ λj _=>xj _ _ _ _ _⟩);have HD1:=hid (show D.length=n∧All 4294967296 D from ⟨by rw [<- hD,dW],by rw [<- hD];exact gJ λj _=>xj _ _ _ _ _⟩);have VA:=hid vA;have VB:=hid vB;have O1:=hid o1;have O2:=hid o2;have Bx:=hid (cm (by omega) ax);have By:=hid (cm (by omega) ay);have I1:=hid (EK o1 (cm (by omega) ax) (cm (by omega) ay));have I2:=hid (EK o2 (cm (by omega) ax) (cm (by omega) ay));have K3:=hid k3;have L3:=hid l3;have Hm:=hid hm;have Hn:=hid hn';rw [hm] at hn k1 ⊢;rw [hn'] at hn hl l1 ⊢;have tr:=λw=>mk_eq hi hz0 hz1 hz2 n (n:Int) (hL:=rfl) w;clear hx hy ax ay o1 o2 hA hB eA eB k3 l3 hm hn' vA vB hC hD;go_enter func160,ntmps160
 go_upto_region 1 with fail
 go_cut [6,7] (λcv dv wx=>∃gc gd:Nat,cv = .slice (some ⟨gc,0,none⟩) n n∧dv = .slice (some ⟨gd,0,none⟩) n n ∧
  aN wx 106 gc n (λ_=>.int .u32 0)∧aN wx 106 gd n (λ_=>.int .u32 0)∧Four wx w.heap.size a b c d∧w.grownBy wx none∧w.heap.size<gc∧w.heap.size<gd∧gc≠gd)
 case first=>
  go_region
  all_goals (go_wp2_with fail;go_meet)
  all_goals
   obtain ⟨w2,ew,r1,r2,g2,EM⟩:=xo (w.alloc (.cells #[.int .i64 a,.int .i64 b,.int .i64 c,.int .i64 d] 178)) n n;have h4:=(Four.made w a b c d).grown g2;have g4:=bf (bn w (.cells #[.int .i64 a,.int .i64 b,.int .i64 c,.int .i64 d] 178) none) g2;rw [World.size_alloc] at r1 r2;rw [ew]
  ·exact ⟨_,_,rfl,rfl,r1,r2,h4,g4,by omega,by omega,by omega⟩
  ·exact ⟨_,_,rfl,rfl,r2,r1,h4,g4,by omega,by omega,by omega⟩
 case rest=>
  obtain ⟨gc,gd,rfl,rfl,rc,rd,rt,gr,g1,g2,g3⟩:=hcut;clear tr;go_wp2_with fail
  go_loopw [8,9,21] (λov uv iv wr=>∃k:Nat,k<=n∧iv = .int .i64 k∧ov = .int .i64 (icC a b (nth xs) (nth ys) k)∧uv = .int .i64 (icC c d (nth xs) (nth ys) k) ∧
   aN wr 106 gc n (lay (λ_=>.int .u32 0) 0 k .u32 C)∧aN wr 106 gd n (lay (λ_=>.int .u32 0) 0 k .u32 D)∧Four wr w.heap.size a b c d∧w.grownBy wr none) (λ_ _ iv _=>n-(intOf iv).toNat)
  case atStart=>
   exact ⟨0,by omega,rfl,rfl,rfl,by rw [jC];exact rc,by rw [jC];exact rd,rt,gr⟩
  case round=>
   obtain ⟨k,hk,rfl,rfl,rfl,rc',rd',ng,gr'⟩:=hrel;clear rc rd rt gr;by_cases hlt:k<n
   ·have i1:(k:Int)<(n:Int):=by omega
    rcases K3.out with k3 | ⟨bx,ox,rfl,hbx,hxx⟩
    ·have:=Hm.out;rw [k3] at this;simp at this;omega
    rcases L3.out with l3 | ⟨bY,oy,rfl,hby,hyy⟩
    ·have:=Hn.out;rw [l3] at this;simp at this;omega
    have c1:=cell_grown gr' (hxx k (by rw [Hm.out];omega));have c2:=cell_grown gr' (hyy k (by rw [Hn.out];omega));have i2:(k:Int)<(m:Int):=by omega
    have x1:=Bx.out k;have y1:=By.out k;have t0:=ng.c0;have t1:=ng.c1;have t2:=ng.c2;have t3:=ng.c3;have fc:=aN.frozen rc' k;have fd:=aN.frozen rd' k;have cc:=aN.cell rc' hlt;have cd:=aN.cell rd' hlt;rw [eG _ _ _] at cc cd;obtain ⟨e1,e2,e3,e4,-⟩:=O1.out.ops x1 y1 (I1.out k).1 (I1.out k).2;obtain ⟨f1,f2,f3,f4,-⟩:=O2.out.ops x1 y1 (I2.out k).1 (I2.out k).2;have E1:=hid e1;have E2:=hid e2;have E3:=hid e3;have E4:=hid e4;have F1:=hid f1;have F2:=hid f2;have F3:=hid f3;have F4:=hid f4;clear hxx hyy e1 e2 e3 e4 f1 f2 f3 f4;go_upto_region 6 with fail
    go_region
    go_upto_region 9 with fail
    rw [E1.out,E2.out,E3.out,E4.out,F1.out,F2.out,F3.out,F4.out];have HC:=hid (show icC a b (nth xs) (nth ys) (k+1)=(icC a b (nth xs) (nth ys) k+(a*(nth xs k:Int)+b*(nth ys k:Int))) / 4294967296 from rfl);have HD:=hid (show icC c d (nth xs) (nth ys) (k+1)=(icC c d (nth xs) (nth ys) k+(c*(nth xs k:Int)+d*(nth ys k:Int))) / 4294967296 from rfl);have ZC:=hid (show (nth C k:Int)=(icC a b (nth xs) (nth ys) k+(a*(nth xs k:Int)+b*(nth ys k:Int))) % 4294967296 by rw [HCn.out k hlt];exact xk _ _ _ _ _);have ZD:=hid (show (nth D k:Int)=(icC c d (nth xs) (nth ys) k+(c*(nth xs k:Int)+d*(nth ys k:Int))) % 4294967296 by rw [HDn.out k hlt];exact xk _ _ _ _ _);generalize icC a b (nth xs) (nth ys) k+(a*(nth xs k:Int)+b*(nth ys k:Int))=S1 at *
    generalize icC c d (nth xs) (nth ys) k+(c*(nth xs k:Int)+d*(nth ys k:Int))=S2 at *
    have RC:=hid rc';have RD:=hid rd';have RT:=hid ng;have GR:=hid gr';clear rc' rd' ng gr' E1 E2 E3 E4 F1 F2 F3 F4;go_wp2_with fail
    go_roundw
    case rel=>
     refine ⟨k+1,by omega,by go_num,int_eq HC.out.symm,int_eq HD.out.symm,?_,?_,?_,?_⟩
     ·refine aN.drew (aN.jA ?_ (a:=⟨gd,k,none⟩) (λh=>g3 h.symm) _);have:=RC.out.set k (.int .u32 (S1 % 4294967296))
      rwa [iG _ _ _ _ (int_eq ZC.out.symm)] at this
     ·refine aN.drew ?_;have:=(RD.out.jA (a:=⟨gc,k,none⟩) g3 (.int .u32 (S1 % 4294967296))).set k (.int .u32 (S2 % 4294967296))
      rwa [iG _ _ _ _ (int_eq ZD.out.symm)] at this
     ·exact aN.drew (aN.jA (aN.jA RT.out (a:=⟨gc,k,none⟩) (by show gc≠w.heap.size;omega) _) (a:=⟨gd,k,none⟩) (by show gd≠w.heap.size;omega) _)
     ·exact bf (di (di GR.out (cI _ _ _ _) (by omega)) (cI _ _ _ _) (by omega)) (ec _ _)
    case measure=>simp [intOf];omega
   ·obtain rfl:k=n:=by omega
    have Oc:=hid (show Own wr 106 .u32 w.heap.size (.slice (some ⟨gc,0,none⟩) k k) C from
     .inr ⟨gc,k,_,by rw [HC1.out.1],by omega,rc',by rw [HC1.out.1];omega,by omega,λj hj=>jB _ _ _ (by rw [HC1.out.1] at hj;exact hj)⟩)
    have Od:=hid (show Own wr 106 .u32 w.heap.size (.slice (some ⟨gd,0,none⟩) k k) D from
     .inr ⟨gd,k,_,by rw [HD1.out.1],by omega,rd',by rw [HD1.out.1];omega,by omega,λj hj=>jB _ _ _ (by rw [HD1.out.1] at hj;exact hj)⟩)
    have G:=hid gr';clear rc' rd' ng gr' K3 L3 I1 I2 O1 O2 HCn HDn;go_wp2_with fail
    refine (tt Oc.out.sl (by rw [HC1.out.1];omega)).mono ?_;rintro e w1 ⟨v1,rfl,h1,g1'⟩;replace h1:=hid h1;go_wp2_with fail
    refine (tt (Od.out.grown g1' (.inl rfl)).sl (by rw [HD1.out.1];omega)).mono ?_;rintro e w2 ⟨v2,rfl,h2,g2'⟩;replace h2:=hid h2;go_wp2_with fail
    go_ret2
    refine ⟨_,_,rfl,?_,?_,bf (bf G.out g1') g2'⟩
    ·have:=h1.out;rw [eC HC1.out.2,VA.out] at this;exact (this.mono G.out.size).grown g2' (.inl rfl)
    ·have:=h2.out;rw [eC HD1.out.2,VB.out] at this;exact this.mono (bf G.out g1').size
def xp:Option Value->Nat | some (.int _ x)=>x.toNat | _=>0
def numOf (B:Nat) (w:World):Value->Nat
 | .slice (some a) n _=>val B (pre (λj=>xp (w.cell? ⟨a.block,a.off+j,none⟩)) n)
 | _=>0
theorem TM {k:IntKind} (h:Sl w k v xs):numOf B w v=val B xs:=by
 obtain ⟨p,cap,rfl,-,-,h⟩:=h;rcases h with rfl | ⟨b,off,rfl,-,h⟩
 ·cases p <;> simp [numOf,pre,val]
 ·show val B (pre (λj=>xp (w.cell? ⟨b,off+j,none⟩)) xs.length)=_;rw [TN (g:=nth xs) (λj hj=>by rw [h j hj];simp [xp]),EN]
theorem lM {k:IntKind} (h:Sl w k v (an B X)) (hB:2<=B:=by omega):numOf B w v=X:=by rw [TM h,dj hB]
def TO (w:World) (B G k:Nat) (e:Ending) (w':World):Prop:=∃v,e = .returned v∧Own w' 106 .u32 B v (an 4294967296 G)∧Bd G k∧w.grownBy w' none
theorem Bd.gcd {C:Nat} (h:Bd A k) (h2:Bd C k):Bd (Nat.gcd A C) k:=by
 rcases Nat.eq_zero_or_pos A with rfl | h0
 ·rw [Nat.gcd_zero_left];exact h2
 ·exact h.le (Nat.gcd_le_left C h0)
theorem jl.out {C s y:Nat}{a b c d:Int} (h:jl (A / 2 ^ s) (C / 2 ^ s) a b c d x y) (hb:b≠0) (hw:A / 2 ^ s<4611686018427387904) (hC:0<C) :
  ∃A' B':Nat,(A':Int)=a*(A:Int)+b*(C:Int)∧(B':Int)=c*(A:Int)+d*(C:Int)∧Nat.gcd A' B'=Nat.gcd A C∧B'<=A'∧A'<=C∧A'+B'<A+C∧Opp a b∧Opp c d:=by
 obtain ⟨e,P,Q,R,U,ht,rfl,rfl,rfl,rfl,hxy,hU,hc⟩:=h;rcases hc with ⟨h1,h2,h3,h4⟩ | ⟨h1,h2,h3,h4,h5,h6,h7⟩
 ·subst h2;simp at hb
 ·have hs:=ht.small h6 hxy (n:=2147483648) (by omega);have hS:0<2 ^ s:=Nat.pow_pos (by omega);obtain ⟨A',B',e1,e2,e3,e4,e5⟩:=ht.numbers (α:=A % 2 ^ s) (β:=C % 2 ^ s) (Nat.mod_lt _ hS) (Nat.mod_lt _ hS) h1 h2 h6 h7;have d1:A / 2 ^ s*2 ^ s+A % 2 ^ s=A:=by rw [Nat.mul_comm];exact Nat.div_add_mod _ _
  have d2:C / 2 ^ s*2 ^ s+C % 2 ^ s=C:=by rw [Nat.mul_comm];exact Nat.div_add_mod _ _
  rw [d1,d2] at e4 e5;rw [d1] at e1;rw [d2] at e2;have g:=Tv e1 e2 e4 e5;have u1:1*A'<=R*A':=Nat.mul_le_mul_right A' h4;have u2:1*A'<=U*A':=Nat.mul_le_mul_right A' hU;have u3:1*B'<=Q*B':=Nat.mul_le_mul_right B' h5;refine ⟨A',B',?_,?_,g.symm,e3,by omega,by omega,?_,?_⟩
  ·rw [e4];cases e <;> simp [sE] <;> grind
  ·rw [e5];cases e <;> simp [sE] <;> grind
  ·cases e <;> simp [sE,Opp] <;> omega
  ·cases e <;> simp [sE,Opp] <;> omega
theorem Num.tu {e:TypeId} (h:Own w e .u32 B v (an 4294967296 X)) (hb:Bd X k):Num w v X k:=iQ.num ⟨h.sl,hb⟩
theorem TP {b:Nat} (h:m<=n) (hb:2<=b:=by omega):(an b m).length<=(an b n).length:=
 iq hb _ _ (Nat.lt_of_le_of_lt h (jm (hb:=hb) n))
set_option maxHeartbeats 4000000 in
theorem TQ {C B0:Nat} (hv:Own w 106 .u32 B0 v (an 4294967296 A)) (hu:Own w 106 .u32 B0 u (an 4294967296 C)) (bA:Bd A k) (bC:Bd C k) (hk:k<=1000000) (hB:B0<=w.heap.size) :
  Calls prog 139 #[v,u] w (TO w B0 (Nat.gcd A C) k):=by
 obtain ⟨p,cap,rfl,-⟩:=id hv.sl;obtain ⟨q,cap',rfl,-⟩:=id hu.sl;have HV:=hid hv;have HU:=hid hu;have BA:=hid bA;have BC:=hid bC;clear hv hu bA bC;go_enter func139,ntmps139
 go_wp2_with fail
 obtain ⟨r,hr⟩:∃r,dq A C=r:=⟨_,rfl⟩;have Hr:=hid hr;clear hr;refine (xq r (Num.tu HV.out BA.out) (Num.tu HU.out BC.out) Hr.out).mono ?_;rintro e w1 ⟨rfl,g1⟩;go_upto_if 12 with fail
 go_cut [0,1] (λav bv wx=>∃P Q:Nat,Own wx 106 .u32 B0 av (an 4294967296 P)∧Own wx 106 .u32 B0 bv (an 4294967296 Q)∧Q<=P∧Nat.gcd P Q=Nat.gcd A C∧Bd P k∧Bd Q k∧w.grownBy wx none)
 case first=>
  by_cases hc:A<C
  ·have h1:r<0:=by rw [<- Hr.out,lN hc];omega
   have h2:decide (r<0)=true:=decide_eq_true h1;go_wp2_with fail
   go_meet
   exact ⟨C,A,HU.out.grown g1 (.inl rfl),HV.out.grown g1 (.inl rfl),by omega,Nat.gcd_comm _ _,BC.out,BA.out,g1⟩
  ·have h1:¬r<0:=by have:=xr (m:=A) (n:=C) (by omega);rw [Hr.out] at this;omega
   have h2:decide (r<0)=false:=decide_eq_false h1;go_wp2_with fail
   go_meet
   exact ⟨A,C,HV.out.grown g1 (.inl rfl),HU.out.grown g1 (.inl rfl),by omega,rfl,BA.out,BC.out,g1⟩
 case rest=>
  obtain ⟨P,Q,hP,hQ,hle,hg,bP,bQ,gr⟩:=hcut;clear HV HU BA BC Hr g1;go_wp2_with fail
  go_loopw [0,1] (λav bv wr=>∃X Y:Nat,Own wr 106 .u32 B0 av (an 4294967296 X)∧Own wr 106 .u32 B0 bv (an 4294967296 Y)∧Y<=X∧Nat.gcd X Y=Nat.gcd A C∧Bd X k∧Bd Y k∧w.grownBy wr none)
   (λav bv wr=>numOf 4294967296 wr av+numOf 4294967296 wr bv)
  case atStart=>exact ⟨P,Q,hP,hQ,hle,hg,bP,bQ,gr⟩
  case round=>
   clear hP hQ hle hg bP bQ gr;obtain ⟨X,Y,hX,hY,hle,hg,bX,bY,gr⟩:=hrel;have mX:=lM (B:=4294967296) hX.sl;have mY:=lM (B:=4294967296) hY.sl;obtain ⟨p,cap,rfl,-⟩:=id hX.sl;obtain ⟨q,cap',rfl,-⟩:=id hY.sl;have lX:=bX.len;have lY:=bY.len;have lYX:=TP (b:=4294967296) hle;have HX:=hid hX;have HY:=hid hY;have BX:=hid bX;have BY:=hid bY;have G:=hid gr;have Hg:=hid hg;have MX:=hid mX;have MY:=hid mY;have hsz:=Nat.le_trans hB gr.size;clear hX hY bX bY gr hg mX mY;by_cases h0:Y=0
   ·have l0:(an 4294967296 Y).length=0:=(gy).2 h0;have hG:X=Nat.gcd A C:=by rw [<- Hg.out,h0,Nat.gcd_zero_right]
    generalize (an 4294967296 Y).length=ly at *
    have b1:¬(0:Int)<(ly:Int):=by omega
    go_wp2_with fail
    go_ret
    exact ⟨_,rfl,by rw [<- hG];exact HX.out,by rw [<- hG];exact BX.out,G.out⟩
   ·have l0:(an 4294967296 Y).length≠0:=λh=>h0 ((gy).1 h);obtain ⟨ly,hly⟩:∃ly,(an 4294967296 Y).length=ly:=⟨_,rfl⟩;obtain ⟨lx,hlx⟩:∃lx,(an 4294967296 X).length=lx:=⟨_,rfl⟩;have Hly:=hid hly;have Hlx:=hid hlx;rw [hly] at l0 lY lYX ⊢;rw [hlx] at lX lYX ⊢;have b1:(0:Int)<(ly:Int):=by omega
    clear hly hlx;by_cases h2:lx<=2
    ·have b2:(lx:Int)<=2:=by omega
     have vX:X<18446744073709551616:=by have:=jm (b:=4294967296) X;rw [Hlx.out] at this;exact Nat.lt_of_lt_of_le this (Nat.le_trans (Nat.pow_le_pow_right (by omega) h2) (by omega))
     have vG:Nat.gcd X Y<18446744073709551616:=Nat.lt_of_le_of_lt (Nat.gcd_le_left Y (by omega)) vX;go_wp2_with fail
     have sX:=HX.out.sl;rw [Hlx.out] at sX;refine (EO _ rfl sX (fg (by omega) _)).mono ?_;rintro e w2 ⟨rfl,rfl⟩;rw [EP rfl (by rw [dj (by omega)];exact vX),dj (by omega)];clear sX;go_wp2_with fail
     have sY:=HY.out.sl;rw [Hly.out] at sY;refine (EO _ rfl sY (fg (by omega) _)).mono ?_;rintro e w2 ⟨rfl,rfl⟩;rw [EP rfl (by rw [dj (by omega)];omega),dj (by omega)];clear sY;go_wp2_with fail
     refine (Tw X Y _ vX).mono ?_;rintro e w2 ⟨rfl,g2⟩;go_wp2_with fail
     refine (xt (Nat.gcd X Y) _ (hX:=vG)).mono ?_;rintro e w3 ⟨v3,rfl,h3,b3,g3⟩;have H3:=hid h3;clear h3;go_wp2_with fail
     go_ret
     exact ⟨_,rfl,by rw [<- Hg.out];exact H3.out.mono (by have:=g2.size;omega),by rw [<- Hg.out];exact BX.out.gcd BY.out,bf (bf G.out g2) g3⟩
    ·have b2:¬(lx:Int)<=2:=by omega
     go_wp2_with fail
     have sX:=HX.out.sl;have sY:=HY.out.sl;rw [Hlx.out] at sX;rw [Hly.out] at sY;have tX:=(tv (b:=4294967296) (by omega) X).resolve_left (λh=>by have:=Hlx.out;rw [h] at this;simp at this;omega);have wn:=TH sX sY (fg (by omega) _) (fg (by omega) _) (by rw [Hlx.out];omega) (by rw [Hlx.out];omega) tX (by rw [dj (by omega),dj (by omega)];exact hle) (by rw [Hlx.out,Hly.out];exact lYX);rw [dj (by omega),dj (by omega)] at wn;clear sX sY tX;refine wn.mono ?_;rintro e w2 ⟨s,rfl,hw,g2⟩;clear wn;have Hw:=hid hw;have Hyx:=hid (Nat.div_le_div_right (c:=2 ^ s) hle);obtain ⟨x0,hx0⟩:∃x0,X / 2 ^ s=x0:=⟨_,rfl⟩;obtain ⟨y0,hy0⟩:∃y0,Y / 2 ^ s=y0:=⟨_,rfl⟩;rw [hx0,hy0];go_wp2_with fail
     refine (TC x0 y0 _ (by rw [<- hx0,<- hy0];exact Hyx.out) (by rw [<- hx0];exact hw)).mono ?_;rintro e w3 ⟨a,b,c,d,x,y,rfl,ht,g3⟩;have HT:=hid ht;have G3:=hid (bf g2 g3);clear ht g2 g3 hw;obtain ⟨w4,hw4⟩:∃w4,w3.alloc (.cells #[.int .i64 a,.int .i64 b,.int .i64 c,.int .i64 d] 178)=w4:=⟨_,rfl⟩;have h4:=Four.made w3 a b c d;rw [hw4] at h4;have G4:=hid (show wr.grownBy w4 none by rw [<- hw4];exact bf G3.out (bn _ _ _));have c0:=h4.c0;have c1:=h4.c1;have c2:=h4.c2;have c3:=h4.c3;go_upto_region 7 with fail
     first | rw [hw4] | skip
     go_wp2_with fail
     refine (Ty a b c d _).mono ?_;rintro e w5 ⟨rfl,g5⟩;have H4:=hid (h4.grown g5);have G5:=hid (bf G4.out g5);clear h4 c0 c1 c2 c3 g5 hw4;have OX:=hid (HX.out.grown G5.out (.inl rfl));have OY:=hid (HY.out.grown G5.out (.inl rfl));clear HX HY;have e0:=H4.out.c0;have e1:=H4.out.c1;have e2:=H4.out.c2;have e3:=H4.out.c3;have N1:=hid (Num.tu OX.out BX.out);have N2:=hid (Num.tu OY.out BY.out);by_cases hb:b=0
     ·have hb':(b == 0)=true:=by rw [hb];rfl
      go_wp2_with fail
      rw [Hlx.out] at N1;rw [Hly.out] at N2;refine (tw N1.out N2.out (hi:=hk) h0).mono ?_;rintro e w6 ⟨vq,vr,rfl,oq,or,-,-,br,g6⟩;have Or:=hid (or.mono (B':=B0) (by have:=G5.out.size;omega));have BR:=hid br;clear oq or br;go_wp2_with fail
      go_roundw
      case rel=>exact ⟨Y,X % Y,by have h:=OY.out.grown g6 (.inl rfl);rw [Hly.out] at h;exact h,Or.out,Nat.le_of_lt (Nat.mod_lt _ (by omega)),((Nat.gcd_comm Y (X % Y)).trans ((Nat.gcd_rec Y X).symm.trans (Nat.gcd_comm Y X))).trans Hg.out,BY.out,BR.out,bf (bf G.out G5.out) g6⟩
      case measure=>
       have m1:=lM (B:=4294967296) (OY.out.grown g6 (.inl rfl)).sl;have m2:=lM (B:=4294967296) Or.out.sl;have m3:=MX.out;have m4:=MY.out
       first | rw [Hly.out] at m1 | skip
       first | rw [Hlx.out] at m3 | skip
       first | rw [Hly.out] at m4 | skip
       rw [m1,m2,m3,m4];have:=Nat.mod_lt X (show 0<Y by omega);omega
     ·have hb':(b == 0)=false:=by rw [beq_eq_false_iff_ne];exact hb
      have ht:=HT.out;rw [<- hx0,<- hy0] at ht;obtain ⟨A',B',f1,f2,f3,f4,f5,f6,f7,f8⟩:=ht.out hb Hw.out (by omega);have F1:=hid f1;have F2:=hid f2;have F3:=hid f3;have F7:=hid f7;have F8:=hid f8;have sX:=OX.out.sl;have sY:=OY.out.sl;rw [Hlx.out] at sX;rw [Hly.out] at sY;have pY:=jm (b:=4294967296) Y;have tn:=TK (A:=A') (B:=B') (a:=a) (b:=b) (c:=c) (d:=d) sX sY (fg (by omega) _) (fg (by omega) _) (by rw [Hly.out];omega) (by rw [Hlx.out,Hly.out];exact lYX) f7 f8 (by rw [dj (by omega),dj (by omega)];exact f1) (by rw [dj (by omega),dj (by omega)];exact f2);have Tn:=hid tn;clear f1 f2 f3 f7 f8 ht HT sX sY pY tn;go_wp2_with fail
      refine Tn.out.mono ?_;rintro e w6 ⟨va,vb,rfl,oa,ob,g6⟩;clear Tn;have Oa:=hid (oa.mono (B':=B0) (by have:=G5.out.size;omega));have Ob:=hid (ob.mono (B':=B0) (by have:=G5.out.size;omega));clear oa ob;go_wp2_with fail
      go_roundw
      case rel=>exact ⟨A',B',Oa.out,Ob.out,f4,F3.out.trans Hg.out,BY.out.le f5,BY.out.le (by omega),bf (bf G.out G5.out) g6⟩
      case measure=>
       have m1:=lM (B:=4294967296) Oa.out.sl;have m2:=lM (B:=4294967296) Ob.out.sl;have m3:=MX.out;have m4:=MY.out
       first | rw [Hly.out] at m1 | skip
       first | rw [Hlx.out] at m3 | skip
       first | rw [Hly.out] at m4 | skip
       rw [m1,m2,m3,m4];exact f6
def nh (w:World) (v:Value) (n:Nat) (zs:Nat->Int) (k:Nat):Prop:=
 ∃(p:Option Addr) (cap:Nat),v = .slice p n cap∧n<=cap∧cap<=9223372036854775807 ∧
  (n=0∨∃b off,p=some ⟨b,off,none⟩∧∀j,j<n->∃(x:Bool) (s:Value) (X:Nat),w.cell? ⟨b,off+j*2,none⟩=some (.bool x)∧w.cell? ⟨b,off+j*2+1,none⟩=some s∧Num w s X k∧zs j=sg x X)
theorem nh.grown  (h:nh w v n zs k) (g:w.grownBy w' none):nh w' v n zs k:=by
 obtain ⟨p,cap,rfl,h1,h2,h3⟩:=h;refine ⟨p,cap,rfl,h1,h2,?_⟩;rcases h3 with h3 | ⟨b,off,rfl,h3⟩
 ·exact .inl h3
 ·refine .inr ⟨b,off,rfl,λj hj=>?_⟩;obtain ⟨x,s,X,c0,c1,hn,hz⟩:=h3 j hj;exact ⟨x,s,X,cell_grown g c0,cell_grown g c1,hn.grown g,hz⟩
theorem nh.lt  (h:nh w (.slice p m cap) n zs k):m=n∧n<=9223372036854775807:=by obtain ⟨p',cap',e,h1,h2,h3⟩:=h;simp only [Value.slice.injEq] at e;omega
def aT (zs:Nat->Int):Nat->Nat
 | 0=>0
 | n+1=>Nat.gcd (aT zs n) (zs n).natAbs
set_option maxHeartbeats 4000000 in
theorem TR  (hv:nh w v n zs k) (hk:k<=1000000) :
  Calls prog 103 #[v] w (fj w (aT zs n:Int) k):=by
 obtain ⟨p,cap,rfl,h1,h2,h3⟩:=hv;have S0:Kept w [] [w.heap.size] (w.alloc (.cells #[.bool false,.slice none 0 0] 28)):=(Kept.start w).res _ _ _ _ _ rfl;have H3:=hid h3;clear h3;go_enter func103,ntmps103
 go_wp2_with fail
 go_loopw [3,8] (λov iv wr=>∃j:Nat,j<=n∧iv = .int .i64 j∧Own wr 106 .u32 (w.heap.size+1) ov (an 4294967296 (aT zs j))∧Bd (aT zs j) k∧Kept w [] [w.heap.size] wr∧w.heap.size+1<=wr.heap.size) (λ_ iv _=>n-(intOf iv).toNat)
 case atStart=>exact ⟨0,by omega,rfl,.inl ⟨rfl,rfl⟩,Nat.pow_pos (by omega),S0,by simp⟩
 case round=>
  obtain ⟨j,hj,rfl,ho,hb,hs,hz⟩:=hrel;have HO:=hid ho;have HB:=hid hb;clear ho hb S0;by_cases hlt:j<n
  ·have i1:(j:Int)<(n:Int):=by omega
   rcases H3.out with h3 | ⟨b,off,rfl,hc⟩
   ·omega
   obtain ⟨x,s,X,c0,c1,hn,hzj⟩:=hc j hlt;have g0:=Kept.all _ _ hs;replace c0:=cell_grown g0 c0;replace c1:=cell_grown g0 c1;obtain ⟨ps,ns,cs,rfl⟩:=hn.slice;replace hn:=hid (hn.grown g0);have HZ:=hid hzj;clear hzj;have HS:=hid hs;clear hc hs;go_wp2_with fail
   obtain ⟨w1,hw1⟩:∃w1,wr.alloc (.cells #[.bool x,.slice ps ns cs] 28)=w1:=⟨_,rfl⟩;have g1:wr.grownBy w1 none:=by rw [<- hw1];exact bn _ _ _
   first | rw [hw1] | skip
   clear hw1;refine (tz (hn.out.grown g1) hk).mono ?_;rintro e w2 ⟨v2,rfl,h2o,b2,g2⟩;have g12:=bf g1 g2;have H2:=hid (h2o.mono (B':=w.heap.size+1) (by have:=g1.size;omega));have B2:=hid b2;replace HO:=hid (HO.out.grown g12 (.inl rfl));clear h2o b2;go_wp2_with fail
   refine (TQ HO.out H2.out HB.out B2.out hk (by have:=g12.size;omega)).mono ?_;rintro e w3 ⟨v3,rfl,h3o,b3,g3⟩;have H3o:=hid h3o;have B3:=hid b3;clear h3o b3;have hgz:aT zs (j+1)=Nat.gcd (aT zs j) X:=by show Nat.gcd (aT zs j) (zs j).natAbs=_;rw [HZ.out,eO]
   have Hgz:=hid hgz;clear hgz;go_wp2_with fail
   go_roundw
   case rel=>exact ⟨j+1,by omega,by go_num,by rw [Hgz.out];exact H3o.out,by rw [Hgz.out];exact B3.out,Kept.grown _ _ (Kept.grown _ _ HS.out g12) g3,by have:=g12.size;have:=g3.size;omega⟩
   case measure=>simp [intOf];omega
  ·obtain rfl:j=n:=by omega
   obtain ⟨pq,cq,rfl,-⟩:=HO.out.sl;go_wp2_with fail
   refine (gK _ _ _ _ _).mono ?_;rintro e w2 ⟨rfl,hg⟩;replace HO:=hid (HO.out.grown hg (.inl rfl));replace hs:=Kept.grown _ _ hs hg;clear hg;obtain ⟨r0,r1,f0,f1,G⟩:=id hs;go_wp2_with fail
   exact kK (b:=false) results103 rfl rfl (eQ r0) (eR r1) (Kept.all _ _ (Kept.set _ _ (by simp) (Nat.le_refl _) hs)) HO.out (by omega) (by omega) rfl HB.out
def TS (w:World) (z:Int) (k:Nat) (e:Ending) (w':World):Prop:=∃v,e = .returned v∧ai w' v z k∧w.grownBy w' none
theorem ai.cells  (h:ai w v z k):∃p cap,v = .agg #[.slice p (an 10000 z.natAbs).length cap,.bool (decide (z<0))]∧db w (.slice p (an 10000 z.natAbs).length cap) z.natAbs k:=h
set_option maxHeartbeats 4000000 in
theorem TU {y:Int} (hv:ai w v y k) (hu:ai w u z k) (hk:k+k<=1000000) :
  Calls prog 84 #[v,u] w (TS w (Nat.gcd y.natAbs z.natAbs:Int) k):=by
 obtain ⟨p,cap,rfl,hv⟩:=hv;obtain ⟨q,cap',rfl,hu⟩:=hu;have S0:Kept w [(w.heap.size+1,0,.slice q (an 10000 z.natAbs).length cap'),(w.heap.size+1,1,.bool (decide (z<0))),(w.heap.size,0,.slice p (an 10000 y.natAbs).length cap),(w.heap.size,1,.bool (decide (y<0)))] [w.heap.size+2] (((w.alloc (.cells #[.slice p (an 10000 y.natAbs).length cap,.bool (decide (y<0))] 55)).alloc (.cells #[.slice q (an 10000 z.natAbs).length cap',.bool (decide (z<0))] 55)).alloc (.cells #[.slice none 0 0,.bool false] 55)):=
  (((Kept.start w).box _ _ _ _ rfl).box _ _ _ _ (by simp)).res _ _ _ _ _ (by simp)
 have HV:=hid hv;have HU:=hid hu;clear hv hu;go_enter func84,ntmps84
 go_upto_region 1 with fail
 obtain ⟨c0,c1,c2,c3,G0⟩:=id S0;go_region
 obtain ⟨w0,hw0⟩:∃w0,(((w.alloc (.cells #[.slice p (an 10000 y.natAbs).length cap,.bool (decide (y<0))] 55)).alloc (.cells #[.slice q (an 10000 z.natAbs).length cap',.bool (decide (z<0))] 55)).alloc (.cells #[.slice none 0 0,.bool false] 55))=w0:=⟨_,rfl⟩;have e0:w0.cell? ⟨w.heap.size+2,0,none⟩=some (.slice none 0 0):=by rw [<- hw0];simp [go_sem]
 have e1:w0.cell? ⟨w.heap.size+2,1,none⟩=some (.bool false):=by rw [<- hw0];simp [go_sem]
 replace e0:=cell_grown (ec w0 none) e0;replace e1:=cell_grown (ec w0 none) e1;rw [hw0] at S0 G0 ⊢;replace S0:=Kept.grown _ _ S0 (ec w0 none);clear hw0 c0 c1 c2 c3 G0;generalize w0.drew=w1 at *
 replace HV:=hid (HV.out.grown (Kept.all _ _ S0));replace HU:=hid (HU.out.grown (Kept.all _ _ S0));go_wp2_with fail
 go_loopw [5,6] (λxv yv wr=>∃X Y:Nat,db wr xv X k∧db wr yv Y k∧Nat.gcd X Y=Nat.gcd y.natAbs z.natAbs∧w1.grownBy wr none) (λ_ yv wr=>numOf 10000 wr yv)
 case atStart=>exact ⟨_,_,HV.out,HU.out,rfl,bH _ _⟩
 case round=>
  obtain ⟨X,Y,hX,hY,hg,gr⟩:=hrel;clear HV HU;have mY:=lM (B:=10000) hY.1;obtain ⟨px,cx,rfl,-⟩:=id hX.1;obtain ⟨py,cy,rfl,-⟩:=id hY.1;have HX:=hid hX;have HY:=hid hY;have Hg:=hid hg;have MY:=hid mY;have bG:Bd (Nat.gcd y.natAbs z.natAbs) k:=by rw [<- hg];exact hX.2.gcd hY.2
  have BG:=hid bG;clear hX hY hg mY bG;by_cases h0:Y=0
  ·have l0:(an 10000 Y).length=0:=(gy).2 h0;have hG:X=Nat.gcd y.natAbs z.natAbs:=by rw [<- Hg.out,h0,Nat.gcd_zero_right]
   have HG:=hid hG;replace S0:=Kept.grown _ _ S0 gr;clear hG;generalize (an 10000 Y).length=ly at *
   have b1:¬(0:Int)<(ly:Int):=by omega
   obtain ⟨c0,c1,c2,c3,r0,r1,f0,f1,G⟩:=id S0;have E0:=hid (cell_grown gr e0);have E1:=hid (cell_grown gr e1);clear e0 e1;go_wp2_with fail
   have G2:=Kept.all _ _ (Kept.set (g:=w.heap.size+2) (u:=.slice px (an 10000 X).length cx) (v:=.bool false) _ _ (by simp <;> omega) (by omega) S0);have K:=Kp.set2 (u:=.slice px (an 10000 X).length cx) (v:=.bool false) E0.out E1.out (by simp) (by simp);refine tA results84 rfl rfl (eQ r0) (eR r1) ⟨_,rfl,⟨px,cx,?_,?_⟩,G2⟩
   ·rw [<- HG.out,Int.natAbs_natCast,decide_eq_false (by omega)]
   ·rw [<- HG.out,Int.natAbs_natCast];exact ⟨HX.out.1.kp K,HX.out.2⟩
  ·have l0:(an 10000 Y).length≠0:=λh=>h0 ((gy).1 h);obtain ⟨ly,hly⟩:∃ly,(an 10000 Y).length=ly:=⟨_,rfl⟩;have Hly:=hid hly;have dv:=EQ HX.out HY.out hk (show 0<Y by omega);have m4:=MY.out;have lY:=HY.out.len;rw [hly] at l0 dv m4 lY ⊢;have Dv:=hid dv;have M4:=hid m4;have b1:(0:Int)<(ly:Int):=by omega
   clear hly dv m4;go_wp2_with fail
   refine Dv.out.mono ?_;clear Dv;rintro e w2 ⟨vq,vr,rfl,-,or,-,br,g2⟩;have Or:=hid (show db w2 vr (X % Y) k from ⟨or.sl,br⟩);clear or br;go_wp2_with fail
   go_roundw
   case rel=>exact ⟨Y,X % Y,by have h:=HY.out.grown g2;rw [Hly.out] at h;exact h,Or.out,((Nat.gcd_comm Y (X % Y)).trans ((Nat.gcd_rec Y X).symm.trans (Nat.gcd_comm Y X))).trans Hg.out,bf gr g2⟩
   case measure=>
    have m2:=lM (B:=10000) Or.out.1;have m4:=M4.out;rw [m2,m4];exact Nat.mod_lt _ (by omega)
theorem aD.more {k:Nat} (h:aD w v z k) (hl:k<=l):aD w v z l:=by obtain ⟨b,s,X,h1,⟨xs,a1,a2,a3,a4⟩,h3⟩:=h;exact ⟨b,s,X,h1,⟨xs,a1,a2,a3,by omega⟩,h3⟩
theorem ai.more {k:Nat} (h:ai w v z k) (hl:k<=l):ai w v z l:=by obtain ⟨p,cap,h1,h2,h3⟩:=h;exact ⟨p,cap,h1,h2,h3.more hl⟩
theorem aD.parts {b:Bool} (h:aD w (.agg #[.bool b,s]) z k):∃X,Num w s X k∧z=sg b X:=by obtain ⟨b',s',X,e,h1,h2⟩:=h;simp only [Value.agg.injEq,Array.mk.injEq,List.cons.injEq,Value.bool.injEq,and_true] at e;obtain ⟨rfl,rfl⟩:=e;exact ⟨X,h1,h2⟩
def fK (w:World) (g:Nat) (b0:Bool) (p0:Option Addr) (n0 c0:Nat) (b1:Bool) (p1:Option Addr) (n1 c1:Nat):Prop:=
 w.cell? ⟨g,0,none⟩=some (.bool b0)∧w.cell? ⟨g,1,none⟩=some (.slice p0 n0 c0)∧w.cell? ⟨g,2,none⟩=some (.bool b1)∧w.cell? ⟨g,3,none⟩=some (.slice p1 n1 c1)
theorem fK.a {c0:Nat}{c1:Nat} (h:fK w g b0 p0 n0 c0 b1 p1 n1 c1):w.cell? ⟨g,0,none⟩=some (.bool b0):=h.1
theorem fK.b {c0:Nat}{c1:Nat} (h:fK w g b0 p0 n0 c0 b1 p1 n1 c1):w.cell? ⟨g,1,none⟩=some (.slice p0 n0 c0):=h.2.1
theorem fK.c {c0:Nat}{c1:Nat} (h:fK w g b0 p0 n0 c0 b1 p1 n1 c1):w.cell? ⟨g,2,none⟩=some (.bool b1):=h.2.2.1
theorem fK.d {c0:Nat}{c1:Nat} (h:fK w g b0 p0 n0 c0 b1 p1 n1 c1):w.cell? ⟨g,3,none⟩=some (.slice p1 n1 c1):=h.2.2.2
theorem fK.new (w:World) (b0:Bool) (p0:Option Addr) (n0 c0:Nat) (b1:Bool) (p1:Option Addr) (n1 c1:Nat) (T:TypeId):fK (w.alloc (.cells #[.bool b0,.slice p0 n0 c0,.bool b1,.slice p1 n1 c1] T)) w.heap.size b0 p0 n0 c0 b1 p1 n1 c1:=by refine ⟨?_,?_,?_,?_⟩ <;> simp [go_sem]
theorem fK.grown {c0:Nat}{c1:Nat} (h:fK w g b0 p0 n0 c0 b1 p1 n1 c1) (k:w.grownBy w' none):fK w' g b0 p0 n0 c0 b1 p1 n1 c1:=
 ⟨cell_grown k h.1,cell_grown k h.2.1,cell_grown k h.2.2.1,cell_grown k h.2.2.2⟩
theorem fK.tr {c0:Nat}{c1:Nat} (k:(w.alloc (.cells #[.bool b0,.slice p0 n0 c0,.bool b1,.slice p1 n1 c1] T)).grownBy w' none):fK w' w.heap.size b0 p0 n0 c0 b1 p1 n1 c1:=
 (fK.new w b0 p0 n0 c0 b1 p1 n1 c1 T).grown k
theorem fK.ER {c0:Nat}{c1:Nat}{o:Obj} (k:((w.alloc (.cells #[.bool b0,.slice p0 n0 c0,.bool b1,.slice p1 n1 c1] T)).alloc o).grownBy w' none):fK w' w.heap.size b0 p0 n0 c0 b1 p1 n1 c1:=
 (fK.new w b0 p0 n0 c0 b1 p1 n1 c1 T).grown (bf (bn _ _ _) k)
section
variable {P:Program}{ops:Array Oper}{Q:Exit->Act->World->Prop}{md:Region.Mode}{T:World->Prop}
def fl (P:Program) (md:Region.Mode) (ops:Array Oper) (Q:Exit->Act->World->Prop) (T:World->Prop) (k:Nat):Nat->Array Bool->Act->World->Prop
 | 0,done,a,w=>Region.ready md ops done = []∧Q .normal a w
 | n+1,done,a,w=>(Region.ready md ops done = []->Q .normal a w) ∧
   ∀i ∈ Region.ready md ops done,wpOp P ops Q i (λa' w'=>((done.setIfInBounds i true).getD k true=false->T w')∧fl P md ops Q T k n (done.setIfInBounds i true) a' w') a w
theorem fl.any:∀(n:Nat) (done:Array Bool) (a:Act) (w:World),fl P md ops Q T k n done a w->wpAny P md ops Q n done a w
 | 0,_,_,_,h=>h
 | n+1,_,_,_,h=>⟨h.1,λi hi=>wpOp_mono (λa' w' h'=>fl.any n _ a' w' h'.2) (h.2 i hi)⟩
def uz (md:Region.Mode) (ops:Array Oper) (j i:Nat):Bool:=((ops[j]?).map λo=>o.after.toList.any λe=>Region.binds md e && e.on == i).getD false
theorem zq {i:Nat} (h:uz md ops j i=true) (hi:done.getD i true=false):j ∉ Region.ready md ops done:=λhj=>by
 obtain ⟨-,o,ho,hall⟩:=mem_ready.1 hj;simp only [uz,ho,Option.map_some,Option.getD_some,List.any_eq_true,Bool.and_eq_true,beq_iff_eq] at h;obtain ⟨e,he,hb,rfl⟩:=h;have h1:=hall e (by simpa using he) hb;have hlt:e.on<done.size:=by
  rcases Nat.lt_or_ge e.on done.size with h' | h'
  ·exact h'
  ·simp [Array.getElem?_eq_none h'] at hi
 simp [hlt] at h1 hi;rw [hi] at h1;cases h1
theorem zr {i:Nat} (hne:i≠j) (h:done.getD j true=false):(done.setIfInBounds i true).getD j true=false:=by rw [getD_set_ne true hne];exact h
def Behind (md:Region.Mode) (ops:Array Oper) (i:Nat) (C:List Nat):Bool:=C.all λc=>(i :: C).any λd=>uz md ops c d
theorem Ka {i:Nat}{C:List Nat} (h:Behind md ops i C=true) (hi:done.getD i true=false) (hC:∀c,c ∈ C->done.getD c true=false) (hj:j ∈ Region.ready md ops done):j ∉ C:=λhm=>by
 have h1:=List.all_eq_true.1 h j hm;obtain ⟨d,hd,hw⟩:=List.any_eq_true.1 h1;rcases List.mem_cons.1 hd with rfl | hd
 ·exact zq hw hi hj
 ·exact zq hw (hC d hd) hj
theorem fl.first {i:Nat}{C:List Nat} (hi:ops[i]?=some oi) (hsel:∀(j:Nat) (o:Oper) cs b,ops[j]?=some o->o.op≠.select cs b)
  (hQ:∀c a w,Q (.panic c) (a.put oi.dst v) w->Q (.panic c) a w) (hb:Behind md ops i C=true) (hkC:k ∈ C) :
  ∀(n:Nat) (done:Array Bool) (a:Act) (w:World),
   (∀j oj,ops[j]?=some oj->j≠i->done.getD j true=false->(∀e ∈ oj.after,Region.binds md e=true->e.on≠i)->oi.apart ops oj=true)->
   i ∈ Region.ready md ops done->(∀c,c ∈ C->done.getD c true=false)->YieldsIf P ops T oi v a->T w->
   fl P md ops Q T k n (done.setIfInBounds i true) (a.put oi.dst v) w->fl P md ops Q T k (n+1) done a w:=by
 intro n
 induction n with
 | zero=>
  intro done a w _ hr _ hy hT H;refine ⟨λh=>(by rw [h] at hr;cases hr),λj hj=>?_⟩;by_cases hji:j=i
  ·subst hji;exact hy.wpOp hi hT ⟨λ_=>hT,H⟩
  ·have:=ready_mono hj hji;rw [H.1] at this;cases this
 | succ n ih=>
  intro done a w hfree hr hC hy hT H;have hiu:done.getD i true=false:=(mem_ready.1 hr).1;refine ⟨λh=>(by rw [h] at hr;cases hr),λj hj=>?_⟩;by_cases hji:j=i
  ·subst hji;exact hy.wpOp hi hT ⟨λ_=>hT,H⟩
  ·have hjC:=Ka hb hiu hC hj;have hiC:=Ka hb hiu hC hr;have hjk:j≠k:=λe=>hjC (e▸hkC);have hik:i≠k:=λe=>hiC (e▸hkC);have h1:=H.2 j (ready_mono hj hji);obtain ⟨hju,oj,hoj,hall⟩:=mem_ready.1 hj;have hno:∀e ∈ oj.after,Region.binds md e=true->e.on≠i:=λe he hb heq=>
    zq (md:=md) (ops:=ops) (j:=j) (i:=i) (by simp only [uz,hoj,Option.map_some,Option.getD_some,List.any_eq_true,Bool.and_eq_true,beq_iff_eq];exact ⟨e,by simpa using he,hb,heq⟩) hiu hj
   have h2:=wpOp_putIf hoj (hfree j oj hoj hji hju hno) (λcs b=>hsel i oi cs b hi) (λcs b=>hsel j oj cs b hoj) hQ hy h1;refine wpOp_mono (λa' w' h3=>?_) h2;have hT':T w':=h3.2.1 (zr hjk (zr hik (hC k hkC)));refine ⟨λ_=>hT',ih (done.setIfInBounds j true) a' w' (λq oq hq hqi hu hn=>?_) (ready_mono hr (Ne.symm hji)) (λc hc=>zr (λe=>hjC (e▸hc)) (hC c hc)) h3.1 hT' ?_⟩
   ·refine hfree q oq hq hqi ?_ hn;by_cases e:j=q
    ·subst e;exact hju
    ·rw [getD_set_ne true e] at hu;exact hu
   ·rw [Array.setIfInBounds_comm _ _ hji];exact h3.2.2
theorem fl.take (C:List Nat){i:Nat}{a:Act} (hi:ops[i]?=some oi)
  (hs:Region.noSelect ops=true) (hf:Region.free md ops done i=true) (hr:(Region.ready md ops done).contains i=true) (hw:(Behind md ops i C && C.contains k && C.all λc=>!done.getD c true)=true)
  (hQ:∀c a w,Q (.panic c) (a.put oi.dst v) w->Q (.panic c) a w) (hy:YieldsIf P ops T oi v a) (hT:T w)
  (h:fl P md ops Q T k n (done.setIfInBounds i true) (a.put oi.dst v) w):fl P md ops Q T k (n+1) done a w:=by
 simp only [Bool.and_eq_true] at hw;exact fl.first hi (Region.noSelect_spec hs) hQ hw.1.1 (by simpa using hw.1.2) n done a w (Region.free_spec hi hf) (by simpa using hr) (λc hc=>by simpa using List.all_eq_true.1 hw.2 c hc) hy hT h
theorem fl.start {id:Nat}{a:Act} (k:Nat) (hm:P.follows .mixedOrders=true) (hT:T w.drew) (h:T w.drew->fl P .any ops Q T k ops.size (Array.replicate ops.size false) a w.drew):(Code.region id ops true).wp P Q a w:=
 wp_region_any hm (fl.any _ _ _ _ (h hT))
def Each (P:Program) (md:Region.Mode) (ops:Array Oper) (Q:Exit->Act->World->Prop) (T:World->Prop) (k n:Nat) (done:Array Bool) (a:Act) (w:World) (rs:List Nat):Prop:=
 ∀i ∈ rs,wpOp P ops Q i (λa' w'=>((done.setIfInBounds i true).getD k true=false->T w')∧fl P md ops Q T k n (done.setIfInBounds i true) a' w') a w
theorem Each.nil {a:Act}:Each P md ops Q T k n done a w []:=λ_ h=>by cases h
theorem fl.ready {a:Act} (hr:Region.ready md ops done=rs) (hne:rs ≠ []) (h:Each P md ops Q T k n done a w rs):fl P md ops Q T k (n+1) done a w:=
 ⟨λh0=>absurd (hr▸h0) hne,hr▸h⟩
theorem Each.held {a:Act}{i:Nat} (ho:ops[i]?=some o)
  (h:∀K':Act->World->Prop,Shut (∀a w,T w->(T w->fl P md ops Q T k n (done.setIfInBounds i true) a w)->K' a w)->if Region.wanted o (yielded ops a.tmps)=true then Oper.wp P o a w K' Q else K' (a.put o.dst undef) w)
  (hs:Each P md ops Q T k n done a w rs):Each P md ops Q T k n done a w (i :: rs):=λj hj=>by
 rcases List.mem_cons.1 hj with rfl | hj
 ·exact wpOp_step ho (λK' hK=>h K' (λa w hS hW=>hK a w ⟨λ_=>hS,hW hS⟩))
 ·exact hs j hj
theorem Each.free {a:Act}{i:Nat} (hk:(done.setIfInBounds i true).getD k true=true) (ho:ops[i]?=some o)
  (h:∀K':Act->World->Prop,Shut (∀a w,fl P md ops Q T k n (done.setIfInBounds i true) a w->K' a w)->if Region.wanted o (yielded ops a.tmps)=true then Oper.wp P o a w K' Q else K' (a.put o.dst undef) w)
  (hs:Each P md ops Q T k n done a w rs):Each P md ops Q T k n done a w (i :: rs):=λj hj=>by
 rcases List.mem_cons.1 hj with rfl | hj
 ·exact wpOp_step ho (λK' hK=>h K' (λa w hW=>hK a w ⟨λe=>(by rw [hk] at e;cases e),hW⟩))
 ·exact hs j hj
theorem fl.end {a:Act} (hr:Region.ready md ops done = []) (h:Q .normal a w):∀n,fl P md ops Q T k n done a w
 | 0=>⟨hr,h⟩
 | _+1=>⟨λ_=>h,by rw [hr];simp⟩
end
def ak (w:World) (v:Value) (z:Int) (k:Nat):Prop:=iy w v z∧Bd z.natAbs k
theorem ak.kp  (h:ak w v z k) (g:Kp w w'):ak w' v z k:=⟨h.1.kp g,h.2⟩
theorem ak.grown  (h:ak w v z k) (g:w.grownBy w' none):ak w' v z k:=⟨h.1.grown g,h.2⟩
theorem ak.i  (h:ak w v z k):aD w v z k:=h.1.ET h.2
theorem ak.more {k:Nat} (h:ak w v z k) (hl:k<=l):ak w v z l:=⟨h.1,h.2.more hl⟩
theorem ak.eq {y:Int} (h:ak w v z k) (e:z=y):ak w v y k:=e▸h
theorem aD.open  (h:aD w v z k):∃b p n c,v = .agg #[.bool b,.slice p n c]∧aD w v z k:=by obtain ⟨b,s,X,rfl,h1,h2⟩:=h;obtain ⟨p,n,c,rfl⟩:=h1.slice;exact ⟨b,p,n,c,rfl,b,_,X,rfl,h1,h2⟩
theorem aD.bd'  (h:aD w v z k):Bd z.natAbs k:=by obtain ⟨b,s,X,rfl,h1,rfl⟩:=h;rw [eO];exact h1.bd
theorem ai.grow  (h:ai w v z k) (g:w.grownBy w' none):ai w' v z k:=h.grown g
theorem ai.eI {y:Int} (h:ai w v z k) (e:z=y):ai w v y k:=e▸h
def mq (w:World) (z:Int) (k:Nat) (e:Ending) (w':World):Prop:=∃b p n c,e = .returned (.agg #[.bool b,.slice p n c])∧ak w' (.agg #[.bool b,.slice p n c]) z k∧w.grownBy w' none
theorem fj.got {e:Ending} (h:fj w z k e w'):mq w z k e w':=by obtain ⟨v,rfl,h1,h2,h3⟩:=h;obtain ⟨p,c,rfl,-⟩:=id h1;exact ⟨_,p,_,c,rfl,⟨h1.nor,h2⟩,h3⟩
def ia (w:World) (z:Int) (k:Nat) (e:Ending) (w':World):Prop:=∃p n c b,e = .returned (.agg #[.slice p n c,.bool b])∧ai w' (.agg #[.slice p n c,.bool b]) z k∧w.grownBy w' none
theorem ia.mk  (h1:ai w' v z k) (h3:w.grownBy w' none):ia w z k (.returned v) w':=by obtain ⟨p,c,rfl,-⟩:=id h1;exact ⟨p,_,c,_,rfl,h1,h3⟩
theorem fo.got {e:Ending} (h:fo w z k e w'):ia w z k e w':=by obtain ⟨v,rfl,h1,h2,h3⟩:=h;exact .mk (h1.Kb h2) h3
section
variable {y t:Int}{i:Nat}
theorem ae5 (hx:aD w v z i) (hy:aD w u y j) (hi:i+j<=1000000) (ht:z*y=t):Calls prog 117 #[v,u] w (mq w t (i+j)):=ht▸(Uc hx hy hi).mono λ_ _ h=>h.got
theorem ae6 (hx:aD w v z i) (hy:aD w u y j) (hi:i+j<=1000000) (ht:z+y=t):Calls prog 121 #[v,u] w (mq w t (i+j+1)):=ht▸(Fb hx hy hi).mono λ_ _ h=>h.got
theorem ae7 (hx:aD w v z i) (hi:i<=1000000) (ht : -z=t):Calls prog 105 #[v] w (mq w t i):=ht▸(TW hx hi).mono λ_ _ h=>h.got
theorem ae8 (hx:aD w v z i) (hi:i<=1000000):Calls prog 63 #[v] w (mq w z i):=(TV hx hi).mono λ_ _ h=>h.got
theorem Kc (z:Int) (h1 : -9223372036854775808<=z) (h2:z<=9223372036854775807) (ht:z=t):Calls prog 68 #[.int .i64 z] w (mq w t 2):=ht▸(Ur z w h1 h2).mono λ_ _ h=>h.got
def Kd (w:World) (z:Int) (k:Nat) (e:Ending) (w':World):Prop:=∃b p n c,e = .returned (.tuple #[.agg #[.bool b,.slice p n c],.int .i64 0])∧ak w' (.agg #[.bool b,.slice p n c]) z k∧w.grownBy w' none
theorem ae9 (hx:aD w v z i) (hy:aD w u y j) (hi:i+j<=900000) (h0:y≠0) (h1:y∣z) (ht:z / y=t):Calls prog 106 #[v,u] w (Kd w t i):=by subst ht;have hb:Bd (z / y).natAbs i:=hx.bd'.le (Int.natAbs_ediv_le_natAbs ..);refine (Uo hx hy hi ⟨h0,Int.emod_eq_zero_of_dvd h1⟩).mono λe w' h=>?_;obtain ⟨v,rfl,h2,h3,h4⟩:=h;obtain ⟨p,c,rfl,-⟩:=id h2;exact ⟨_,p,_,c,rfl,⟨h2.nor,hb⟩,h4⟩
theorem afa (hx:ai w v z i) (hy:ai w u y j) (hi:i+j<=1000000) (ht:z*y=t):Calls prog 26 #[v,u] w (ia w t (i+j)):=ht▸(afb hx hy hi).mono λ_ _ h=>h.got
theorem afc (hx:ai w v z i) (hy:ai w u y j) (hi:i+j<=1000000) (ht:z+y=t):Calls prog 66 #[v,u] w (ia w t (i+j+1)):=ht▸(Ke hx hy hi).mono λ_ _ h=>h.got
theorem Kf (hx:ai w v z i) (ht : -z=t):Calls prog 83 #[v] w (ia w t i):=by subst ht;refine (Kg hx).mono λe w' h=>?_;obtain ⟨v,rfl,h1,h2⟩:=h;exact .mk h1 h2
theorem zt (z:Int) (h1 : -9223372036854775808<=z) (h2:z<=9223372036854775807) (ht:z=t):Calls prog 24 #[.int .i64 z] w (ia w t 2):=ht▸(afd z w h1 h2).mono λ_ _ h=>h.got
theorem afe (hx:aD w v z i) (hi:i<=1000000):Calls prog 27 #[v] w (ia w z i):=(aff hx hi).mono λ_ _ h=>h.got
theorem afg (hx:ai w v z i) (hi:i<=1000000):Calls prog 25 #[v] w (mq w z i):=(afh hx hi).mono λ_ _ h=>h.got
theorem afi (k:Nat) (hx:ai w v z i) (hy:ai w u y j) (l0:i<=k) (l1:j<=k) (hk:k+k<=1000000) (ht:(Int.gcd z y:Int)=t):Calls prog 84 #[v,u] w (ia w t k):=by subst ht;refine (TU (hx.more l0) (hy.more l1) hk).mono λe w' h=>?_;obtain ⟨v,rfl,h1,h2⟩:=h;exact .mk h1 h2
theorem afj (hx:ai w v z i){b:Bool} (hb:decide (z=0)=b):Calls prog 28 #[v] w (λe w'=>e = .returned (.bool b)∧w.grownBy w' none):=hb▸afk hx
end
def fT (w:World) (v:Value) (q:Rat) (k:Nat):Prop:=∃b p n c b' p' n' c' z y,v = .agg #[.bool b,.slice p n c,.bool b',.slice p' n' c']∧aD w (.agg #[.bool b,.slice p n c]) z k∧aD w (.agg #[.bool b',.slice p' n' c']) y k∧aH z y=q
theorem fT.kp {q:Rat} (h:fT w v q k) (g:Kp w w'):fT w' v q k:=by obtain ⟨b,p,n,c,b',p',n',c',z,y,h1,h2,h3,h4⟩:=h;exact ⟨b,p,n,c,b',p',n',c',z,y,h1,h2.kp g,h3.kp g,h4⟩
theorem fT.grown {q:Rat} (h:fT w v q k) (g:w.grownBy w' none):fT w' v q k:=h.kp (Kp.of g)
theorem fT.eq {q:Rat} (h:fT w v q k) (e:q=r):fT w v r k:=e▸h
theorem fT.more {q:Rat}{k:Nat} (h:fT w v q k) (hl:k<=l):fT w v q l:=by obtain ⟨b,p,n,c,b',p',n',c',z,y,h1,h2,h3,h4⟩:=h;exact ⟨b,p,n,c,b',p',n',c',z,y,h1,h2.more hl,h3.more hl,h4⟩
def eY (w:World) (v:Value) (q:Rat) (k:Nat):Prop:=∃b p n c b' p' n' c',v = .agg #[.bool b,.slice p n c,.bool b',.slice p' n' c']∧ak w (.agg #[.bool b,.slice p n c]) q.num k∧ak w (.agg #[.bool b',.slice p' n' c']) (q.den:Int) k
theorem eY.kp {q:Rat} (h:eY w v q k) (g:Kp w w'):eY w' v q k:=by obtain ⟨b,p,n,c,b',p',n',c',h1,h2,h3⟩:=h;exact ⟨b,p,n,c,b',p',n',c',h1,h2.kp g,h3.kp g⟩
theorem eY.grown {q:Rat} (h:eY w v q k) (g:w.grownBy w' none):eY w' v q k:=h.kp (Kp.of g)
theorem eY.q {q:Rat} (h:eY w v q k):fT w v q k:=by obtain ⟨b,p,n,c,b',p',n',c',h1,h2,h3⟩:=h;exact ⟨b,p,n,c,b',p',n',c',_,_,h1,h2.i,h3.i,aeo q⟩
theorem eY.eq {q:Rat} (h:eY w v q k) (e:q=r):eY w v r k:=e▸h
theorem eY.more {q:Rat}{k:Nat} (h:eY w v q k) (hl:k<=l):eY w v q l:=by obtain ⟨b,p,n,c,b',p',n',c',h1,h2,h3⟩:=h;exact ⟨b,p,n,c,b',p',n',c',h1,h2.more hl,h3.more hl⟩
def zu (w:World) (q:Rat) (k:Nat) (e:Ending) (w':World):Prop:=∃b p n c b' p' n' c',e = .returned (.agg #[.bool b,.slice p n c,.bool b',.slice p' n' c'])∧eY w' (.agg #[.bool b,.slice p n c,.bool b',.slice p' n' c']) q k∧w.grownBy w' none
theorem zu.eq {q:Rat}{e:Ending} (h:zu w q k e w') (hq:q=r):zu w r k e w':=hq▸h
def ah (w:World) (v:Value) (q:Rat) (k:Nat):Prop:=∃p n c b p' n' c' b',v = .agg #[.slice p n c,.bool b,.slice p' n' c',.bool b']∧ai w (.agg #[.slice p n c,.bool b]) q.num k∧ai w (.agg #[.slice p' n' c',.bool b']) (q.den:Int) k
theorem ah.kp {q:Rat} (h:ah w v q k) (g:Kp w w'):ah w' v q k:=by obtain ⟨p,n,c,b,p',n',c',b',h1,h2,h3⟩:=h;exact ⟨p,n,c,b,p',n',c',b',h1,h2.kp g,h3.kp g⟩
theorem ah.grown {q:Rat} (h:ah w v q k) (g:w.grownBy w' none):ah w' v q k:=h.kp (Kp.of g)
theorem ah.eq {q:Rat} (h:ah w v q k) (e:q=r):ah w v r k:=e▸h
theorem ah.more {q:Rat}{k:Nat} (h:ah w v q k) (hl:k<=l):ah w v q l:=by obtain ⟨p,n,c,b,p',n',c',b',h1,h2,h3⟩:=h;exact ⟨p,n,c,b,p',n',c',b',h1,h2.more hl,h3.more hl⟩
def jw (w:World) (q:Rat) (k:Nat) (e:Ending) (w':World):Prop:=∃p n c b p' n' c' b',e = .returned (.agg #[.slice p n c,.bool b,.slice p' n' c',.bool b'])∧ah w' (.agg #[.slice p n c,.bool b,.slice p' n' c',.bool b']) q k∧w.grownBy w' none
theorem jw.eq {q:Rat}{e:Ending} (h:jw w q k e w') (hq:q=r):jw w r k e w':=hq▸h
theorem afl {R:Ending->World->Prop}{a:Act}{r:Nat}{x y:Value} (hres:fn.results = #[ResultVar.cell r 55]) (hd:a.defers = []) (hr:a.tmps[r]?=some (.pointer (some ⟨g,0,none⟩)))
  (c0:w.cell? ⟨g,0,none⟩=some x) (c1:w.cell? ⟨g,1,none⟩=some y) (h:R (.returned (.agg #[x,y])) w):bodyPost prog fn R .ret a w:=by
 simp [bodyPost,results,hres,hr,c0,c1,go_sem,h,hd]
end Go.Proofs.YtlmanbjkkjfjgaaGreat
