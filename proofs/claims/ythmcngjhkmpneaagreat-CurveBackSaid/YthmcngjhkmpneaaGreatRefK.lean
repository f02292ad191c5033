/- What the laws of package limb need of the reference numbers. -/
import Derived.Test.YthmcngjhkmpneaaGreatRefA
import Derived.Test.YthmcngjhkmpneaaGreatRowKit
import Derived.Test.YthmcngjhkmpneaaGreatLimbA
namespace Go.Proofs.YthmcngjhkmpneaaGreat
open Go.RowKit
def bw (w:World) (v:Value) (X k:Nat):Prop:=Sl w .i64 v (af 10000 X)∧Bd X k
theorem bw.grown {w w':World}{v:Value}{X k:Nat} (h:bw w v X k) (g:w.grownBy w' none):bw w' v X k:=⟨h.1.grown g (.inl rfl),h.2⟩
theorem bw.len {w:World}{v:Value}{X k:Nat} (h:bw w v X k):(af 10000 X).length<=3*k:=yh h.2
def eT (w:World) (X k:Nat) (e:Ending) (w':World):Prop:=∃v,e = .returned v∧Own w' 3 .i64 w.heap.size v (af 10000 X)∧Bd X k∧w.grownBy w' none
theorem eT.of {w:World}{X k:Nat}{e:Ending}{w':World} (h:gT w X e w') (hb:Bd X k):eT w X k e w':=by
 obtain ⟨v,h1,h2,h3⟩:=h
 exact ⟨v,h1,h2,hb,h3⟩
section
variable {w:World}{v u:Value}{X Y i j:Nat}
theorem LI (hx:bw w v X i) (hy:bw w u Y j) (hi:i+j<=1000000):Calls Tryz.prog 136 #[v,u] w (eT w (X+Y) (i+j+1)):=
 (Lk hx.1 hy.1 (by have:=hx.len;omega) (by have:=hy.len;omega)).mono fun _ _ h=>eT.of h (hx.2.add hy.2)
theorem no (hx:bw w v X i) (hy:bw w u Y j) (hi:i<=1000000) (hle:Y<=X):Calls Tryz.prog 138 #[v,u] w (eT w (X-Y) i):=
 (yp hx.1 hy.1 (by have:=hx.len;omega) hle).mono fun _ _ h=>eT.of h (hx.2.sub Y)
theorem LJ (hx:bw w v X i) (hy:bw w u Y j) (hi:i+j<=1000000):Calls Tryz.prog 117 #[v,u] w (eT w (X*Y) (i+j)):=
 (Lp hx.1 hy.1 (by have:=hx.len;omega) (by have:=hy.len;omega)).mono fun _ _ h=>eT.of h (hx.2.mul hy.2)
def LK (w:World) (Q R i:Nat) (e:Ending) (w':World):Prop:=∃v u,e = .returned (.tuple #[v,u])∧Own w' 3 .i64 w.heap.size v (af 10000 Q)∧Own w' 3 .i64 w.heap.size u (af 10000 R)∧Bd Q i∧Bd R i∧w.grownBy w' none
theorem vm (hx:bw w v X i) (hy:bw w u Y j) (hi:i+j<=1000000) (hY:0<Y):Calls Tryz.prog 116 #[v,u] w (LK w (X / Y) (X % Y) i):=
 (Lw hx.1 hy.1 (by have:=hx.len;omega) (by have:=hy.len;omega) hY).mono fun _ _ ⟨a,b,h1,h2,h3,h4⟩=>⟨a,b,h1,h2,h3,hx.2.div Y,hx.2.mod Y,h4⟩
theorem LL {n k:Nat} (h:n<32*k):Bd (2 ^ n) k:=by
 unfold Bd
 rw [show (4294967296:Nat)=2 ^ 32 from rfl,<- Nat.pow_mul]
 exact Nat.pow_lt_pow_right (by omega) h
theorem LM (n k:Nat) (hn:n<=1000000) (hk:n<32*k):Calls Tryz.prog 112 #[.int .i64 n] w (eT w (2 ^ n) k):=
 (LH n w hn).mono fun _ _ h=>eT.of h (LL hk)
theorem vS (hx:bw w v X i) (hy:bw w u Y j):Calls Tryz.prog 137 #[v,u] w fun e w'=>e = .returned (.int .i64 (ij X Y))∧w.grownBy w' none:=
 (yo hx.1 hy.1).mono fun _ _ ⟨h,n,hw⟩=>⟨h,by rw [hw];exact eQ _ _ _⟩
end
end Go.Proofs.YthmcngjhkmpneaaGreat
