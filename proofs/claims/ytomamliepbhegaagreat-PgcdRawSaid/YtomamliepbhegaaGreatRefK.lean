/- What the laws of package -/
import Derived.Test.YtomamliepbhegaaGreatRefA
import Derived.Test.YtomamliepbhegaaGreatRowKit
namespace Go.Proofs.YtomamliepbhegaaGreat
open Go.RowKit
variable {w w':World}{v:Value}{X k:Nat}
def cF (w:World) (v:Value) (X k:Nat):Prop:=Sl w .i64 v (an 10000 X)∧Bd X k
theorem cF.grown  (h:cF w v X k) (g:w.grownBy w' none):cF w' v X k:=⟨h.1.grown g (.inl rfl),h.2⟩
theorem cF.len  (h:cF w v X k):(an 10000 X).length<=3*k:=JI h.2
def iO (w:World) (X k:Nat) (e:Ending) (w':World):Prop:=∃v,e = .returned v∧Own w' 3 .i64 w.heap.size v (an 10000 X)∧Bd X k∧w.grownBy w' none
theorem iO.of {e:Ending} (h:ml w X e w') (hb:Bd X k):iO w X k e w':=by
 obtain ⟨v,h1,h2,h3⟩:=h
 exact ⟨v,h1,h2,hb,h3⟩
section
variable {u:Value}{Y i j:Nat}
theorem adw (hx:cF w v X i) (hy:cF w u Y j) (hi:i+j<=1000000:=by omega):Calls Tryz.prog 84 #[v,u] w (iO w (X+Y) (i+j+1)):=
 (adg hx.1 hy.1 (by have:=hx.len;omega) (by have:=hy.len;omega)).mono fun _ _ h=>iO.of h (hx.2.add hy.2)
theorem tO (hx:cF w v X i) (hy:cF w u Y j) (hle:Y<=X) (hi:i<=1000000:=by omega):Calls Tryz.prog 86 #[v,u] w (iO w (X-Y) i):=
 (JP hx.1 hy.1 (by have:=hx.len;omega) hle).mono fun _ _ h=>iO.of h (hx.2.sub Y)
theorem adx (hx:cF w v X i) (hy:cF w u Y j) (hi:i+j<=1000000:=by omega):Calls Tryz.prog 79 #[v,u] w (iO w (X*Y) (i+j)):=
 (adl hx.1 hy.1 (by have:=hx.len;omega) (by have:=hy.len;omega)).mono fun _ _ h=>iO.of h (hx.2.mul hy.2)
def ady (w:World) (Q R i:Nat) (e:Ending) (w':World):Prop:=∃v u,e = .returned (.tuple #[v,u])∧Own w' 3 .i64 w.heap.size v (an 10000 Q)∧Own w' 3 .i64 w.heap.size u (an 10000 R)∧Bd Q i∧Bd R i∧w.grownBy w' none
theorem Ds (hx:cF w v X i) (hy:cF w u Y j) (hi:i+j<=1000000) (hY:0<Y):Calls Tryz.prog 78 #[v,u] w (ady w (X / Y) (X % Y) i):=
 (ads hx.1 hy.1 (by have:=hx.len;omega) (by have:=hy.len;omega) hY).mono fun _ _ ⟨a,b,h1,h2,h3,h4⟩=>⟨a,b,h1,h2,h3,hx.2.div Y,hx.2.mod Y,h4⟩
theorem xL {n:Nat} (h:n<32*k):Bd (2 ^ n) k:=by
 unfold Bd
 rw [show (4294967296:Nat)=2 ^ 32 from rfl,<- Nat.pow_mul]
 exact Nat.pow_lt_pow_right (by omega) h
theorem adz (n k:Nat) (hn:n<=1000000:=by omega) (hk:n<32*k:=by omega):Calls Tryz.prog 72 #[.int .i64 n] w (iO w (2 ^ n) k):=
 (adv n w hn).mono fun _ _ h=>iO.of h (xL hk)
theorem tP (hx:cF w v X i) (hy:cF w u Y j):Calls Tryz.prog 85 #[v,u] w fun e w'=>e = .returned (.int .i64 (cU X Y))∧w.grownBy w' none:=
 (JO hx.1 hy.1).mono fun _ _ ⟨h,n,hw⟩=>⟨h,by rw [hw];exact jo _ _ _⟩
end
end Go.Proofs.YtomamliepbhegaaGreat
