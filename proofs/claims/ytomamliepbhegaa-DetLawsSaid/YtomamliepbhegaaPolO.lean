/- Numbers told by facts as arguments of Of, Pow, ratio.Of and Within; a row of two numbers; sizes of what is moved. -/
import Derived.Test.YtomamliepbhegaaPolM
import Derived.Test.YtomamliepbhegaaPolS
import Derived.Test.YtomamliepbhegaaPolL
import Derived.Test.YtomamliepbhegaaPolN
import Derived.Test.YtomamliepbhegaaPows
namespace Go.Proofs.Ytomamliepbhegaa.Sym
open Go.RowKit
def bX (v:Int) (n:Nat):Nat:=(if v.tmod n<0 then v.tmod n+n else v.tmod n).toNat
theorem MO (v:Int){n:Nat} (hn:1<=n):v.tmod n<n ∧ -(n:Int)<v.tmod n:=by
 refine ⟨Int.tmod_lt_of_pos v (show (0:Int)<n by omega),?_⟩
 rcases Int.le_total 0 v with h | h
 ·have:=Int.tmod_nonneg (b:=(n:Int)) h;omega
 ·have e:=Int.neg_tmod (a:=-v) (b:=(n:Int))
  rw [Int.neg_neg] at e
  have:=Int.tmod_lt_of_pos (-v) (show (0:Int)<n by omega)
  omega
theorem jR (v:Int){n:Nat} (hn:1<=n):bX v n<n:=by
 obtain ⟨t,t2⟩:=MO v hn
 unfold bX
 split <;> omega
theorem rX (v:Int) (n:Nat) (w:World) (hn:1<=n) (hn2:n<=1000000) :
  Calls Try.prog 8 #[.int .i64 v,.int .i64 n] w fun e w'=>e = .returned (.int .i64 (bX v n))∧w=w':=by
 have h1:¬(n:Int)<1:=by omega
 have h2:(1:Int)<=(n:Int):=by omega
 obtain ⟨t,t2⟩:=MO v hn
 by_cases hk:v.tmod n<0
 ·have E:Hid ((bX v n:Int)=v.tmod n+n):=Lib.hid (by unfold bX;rw [if_pos hk];omega)
  go_enter Try.func8,Try.ntmps8
  go_wp2
  go_ret
  exact ⟨eK (by rw [E.out]),rfl⟩
 ·have E:Hid ((bX v n:Int)=v.tmod n):=Lib.hid (by unfold bX;rw [if_neg hk];omega)
  go_enter Try.func8,Try.ntmps8
  go_wp2
  go_ret
  exact ⟨eK (by rw [E.out]),rfl⟩
def z2 (a b:Int):Nat->Int
 | 0=>a
 | _=>b
section
variable {Φ:PH}{p q x x1 x2 j i K:Nat}{a b t z y m:Int}
theorem cZ {n k:Nat}{ni:Int} (hn:(n:Int)=ni) (hp:∀w v,Φ p w v->v = .int .i64 m) (h1:1<=n) (h2:n<=1000000) (hw:bX m n=k) (hx:Φ x=Ni (k:Int)):aj Φ Try.prog ⟨8,[.fact p,.lit (.ci .i64 ni)],[oN x],false⟩:=Ld fun X w v u g1 g2=>by
 subst hn
 rw [hp _ _ (get g1)]
 have h3:u = .int .i64 (n:Int):=g2
 subst h3
 refine (rX m n w h1 h2).mono fun e w' h=>?_
 obtain ⟨rfl,rfl⟩:=h
 rw [hw]
 exact ⟨ba _ _,[_],rfl,⟨⟨⟨_,rfl⟩,fun _ h=>by cases h⟩,fun q hq w1 hw=>by
  simp only [List.mem_singleton] at hq;subst hq
  show Φ x w1 _;rw [hx];rfl⟩,trivial⟩
end
theorem gM {Φ:PH}{x:Nat}{a:Int} (hx:Φ x=Ni a) (X:Nat->Prop) (w:World) (v:Value) (h:(Arg.parts (.one (.lit (.ci .i64 a))) []).ok Φ X w v):(Arg.fact x).ok Φ X w v:=fun w1 _=>by
 rw [hx]
 exact h.1.1
theorem MP (k:Nat):Bd (0:Int).natAbs k:=Nat.pow_pos (by omega)
theorem ym {z y:Nat->Int}{n m k k':Nat} (hz:∀i,i<n->Bd (z i).natAbs k) (hy:∀i,i<m->Bd (y i).natAbs k') (i:Nat):Bd (ae (mulL z n y m) i).natAbs (k+k'+n):=by
 unfold mulL
 split
 ·rw [dL (by simp)];exact MP _
 ·rw [dt]
  split
  ·have h1:=bC z n
   have h2:=bC y m
   exact (oB (c:=n) hz (fun i hi=>hy i (by omega)) h1 h1 i).more (by omega)
  ·exact MP _
theorem ry (x:Rat) (n:Nat) (z:Nat->Int):ev x (ad (mk n z)).length (ae (ad (mk n z)))=ev x n z:=by
 rw [<- gJ (x:=x) (m:=n) (fun i hi=>dL hi) (by rw [iE];exact bC _ _)]
 exact lX fun i hi=>by rw [fu,dt,if_pos hi]
end Go.Proofs.Ytomamliepbhegaa.Sym
