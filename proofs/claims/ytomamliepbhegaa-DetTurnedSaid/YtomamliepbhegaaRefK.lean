/- What the laws of package limb need of the reference numbers. -/
import Derived.Test.YtomamliepbhegaaRefA
import Derived.Test.YtomamliepbhegaaRowKit
import Derived.Test.YtomamliepbhegaaLimbA
namespace Go.Proofs.Ytomamliepbhegaa
open Go.RowKit
def bV (w:World) (v:Value) (X k:Nat):Prop:=Sl w .i64 v (ak 10000 X)∧Bd X k
theorem bV.grown {w w':World}{v:Value}{X k:Nat} (h:bV w v X k) (g:w.grownBy w' none):bV w' v X k:=⟨h.1.grown g (.inl rfl),h.2⟩
theorem bV.len {w:World}{v:Value}{X k:Nat} (h:bV w v X k):(ak 10000 X).length<=3*k:=uY h.2
def eH (w:World) (X k:Nat) (e:Ending) (w':World):Prop:=∃v,e = .returned v∧Own w' 3 .i64 w.heap.size v (ak 10000 X)∧Bd X k∧w.grownBy w' none
theorem eH.of {w:World}{X k:Nat}{e:Ending}{w':World} (h:gk w X e w') (hb:Bd X k):eH w X k e w':=by
 obtain ⟨v,h1,h2,h3⟩:=h
 exact ⟨v,h1,h2,hb,h3⟩
section
variable {w:World}{v u:Value}{X Y i j:Nat}
theorem OG (hx:bV w v X i) (hy:bV w u Y j) (hi:i+j<=1000000):Calls Try.prog 95 #[v,u] w (eH w (X+Y) (i+j+1)):=
 (Hf hx.1 hy.1 (by have:=hx.len;omega) (by have:=hy.len;omega)).mono fun _ _ h=>eH.of h (hx.2.add hy.2)
theorem LS (hx:bV w v X i) (hy:bV w u Y j) (hi:i<=1000000) (hle:Y<=X):Calls Try.prog 97 #[v,u] w (eH w (X-Y) i):=
 (ve hx.1 hy.1 (by have:=hx.len;omega) hle).mono fun _ _ h=>eH.of h (hx.2.sub Y)
def OI (w:World) (Q R i:Nat) (e:Ending) (w':World):Prop:=∃v u,e = .returned (.tuple #[v,u])∧Own w' 3 .i64 w.heap.size v (ak 10000 Q)∧Own w' 3 .i64 w.heap.size u (ak 10000 R)∧Bd Q i∧Bd R i∧w.grownBy w' none
theorem sj (hx:bV w v X i) (hy:bV w u Y j) (hi:i+j<=1000000) (hY:0<Y):Calls Try.prog 93 #[v,u] w (OI w (X / Y) (X % Y) i):=
 (HK hx.1 hy.1 (by have:=hx.len;omega) (by have:=hy.len;omega) hY).mono fun _ _ ⟨a,b,h1,h2,h3,h4⟩=>⟨a,b,h1,h2,h3,hx.2.div Y,hx.2.mod Y,h4⟩
theorem OJ {n k:Nat} (h:n<32*k):Bd (2 ^ n) k:=by
 unfold Bd
 rw [show (4294967296:Nat)=2 ^ 32 from rfl,<- Nat.pow_mul]
 exact Nat.pow_lt_pow_right (by omega) h
theorem OK (n k:Nat) (hn:n<=1000000) (hk:n<32*k):Calls Try.prog 57 #[.int .i64 n] w (eH w (2 ^ n) k):=
 (HW n w hn).mono fun _ _ h=>eH.of h (OJ hk)
theorem LT (hx:bV w v X i) (hy:bV w u Y j):Calls Try.prog 96 #[v,u] w fun e w'=>e = .returned (.int .i64 (bZ X Y))∧w.grownBy w' none:=
 (vd hx.1 hy.1).mono fun _ _ ⟨h,n,hw⟩=>⟨h,by rw [hw];exact gP _ _ _⟩
end
end Go.Proofs.Ytomamliepbhegaa
