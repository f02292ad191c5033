/- What the laws of package limb need of the reference numbers. -/
import Derived.Test.YtbokonbbokhjlaaGreatRefA
import Derived.Test.YtbokonbbokhjlaaGreatRowKit
import Derived.Test.YtbokonbbokhjlaaGreatLimbA
namespace Go.Proofs.YtbokonbbokhjlaaGreat
open Go.RowKit
def cG (w:World) (v:Value) (X k:Nat):Prop:=Sl w .i64 v (aj 10000 X)∧Bd X k
theorem cG.grown {w w':World}{v:Value}{X k:Nat} (h:cG w v X k) (g:w.grownBy w' none):cG w' v X k:=⟨h.1.grown g (.inl rfl),h.2⟩
theorem cG.len {w:World}{v:Value}{X k:Nat} (h:cG w v X k):(aj 10000 X).length<=3*k:=Ux h.2
def kD (w:World) (X k:Nat) (e:Ending) (w':World):Prop:=∃v,e = .returned v∧Own w' 3 .i64 w.heap.size v (aj 10000 X)∧Bd X k∧w.grownBy w' none
theorem kD.of {w:World}{X k:Nat}{e:Ending}{w':World} (h:mO w X e w') (hb:Bd X k):kD w X k e w':=by
 obtain ⟨v,h1,h2,h3⟩:=h
 exact ⟨v,h1,h2,hb,h3⟩
section
variable {w:World}{v u:Value}{X Y i j:Nat}
theorem UX (hx:cG w v X i) (hy:cG w u Y j) (hi:i+j<=1000000):Calls Tryz.prog 105 #[v,u] w (kD w (X+Y) (i+j+1)):=
 (UI hx.1 hy.1 (by have:=hx.len;omega) (by have:=hy.len;omega)).mono fun _ _ h=>kD.of h (hx.2.add hy.2)
theorem q7 (hx:cG w v X i) (hy:cG w u Y j) (hi:i<=1000000) (hle:Y<=X):Calls Tryz.prog 107 #[v,u] w (kD w (X-Y) i):=
 (D5 hx.1 hy.1 (by have:=hx.len;omega) hle).mono fun _ _ h=>kD.of h (hx.2.sub Y)
def UY (w:World) (Q R i:Nat) (e:Ending) (w':World):Prop:=∃v u,e = .returned (.tuple #[v,u])∧Own w' 3 .i64 w.heap.size v (aj 10000 Q)∧Own w' 3 .i64 w.heap.size u (aj 10000 R)∧Bd Q i∧Bd R i∧w.grownBy w' none
theorem zC (hx:cG w v X i) (hy:cG w u Y j) (hi:i+j<=1000000) (hY:0<Y):Calls Tryz.prog 103 #[v,u] w (UY w (X / Y) (X % Y) i):=
 (UQ hx.1 hy.1 (by have:=hx.len;omega) (by have:=hy.len;omega) hY).mono fun _ _ ⟨a,b,h1,h2,h3,h4⟩=>⟨a,b,h1,h2,h3,hx.2.div Y,hx.2.mod Y,h4⟩
theorem qT {n k:Nat} (h:n<32*k):Bd (2 ^ n) k:=by
 unfold Bd
 rw [show (4294967296:Nat)=2 ^ 32 from rfl,<- Nat.pow_mul]
 exact Nat.pow_lt_pow_right (by omega) h
theorem UZ (n k:Nat) (hn:n<=1000000) (hk:n<32*k):Calls Tryz.prog 90 #[.int .i64 n] w (kD w (2 ^ n) k):=
 (UW n w hn).mono fun _ _ h=>kD.of h (qT hk)
theorem q8 (hx:cG w v X i) (hy:cG w u Y j):Calls Tryz.prog 106 #[v,u] w fun e w'=>e = .returned (.int .i64 (cF X Y))∧w.grownBy w' none:=
 (D4 hx.1 hy.1).mono fun _ _ ⟨h,n,hw⟩=>⟨h,by rw [hw];exact iV _ _ _⟩
end
end Go.Proofs.YtbokonbbokhjlaaGreat
