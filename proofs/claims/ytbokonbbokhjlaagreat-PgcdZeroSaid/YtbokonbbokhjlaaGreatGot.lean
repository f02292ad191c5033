/- Contracts in the form in which straight code uses them: results in letters, numbers by equations. -/
import Derived.Test.YtbokonbbokhjlaaGreatGcd
import Derived.Test.YtbokonbbokhjlaaGreatRefK
import Derived.Test.YtbokonbbokhjlaaGreatBx
import Derived.Test.YtbokonbbokhjlaaGreatQuot
import Derived.Test.YtbokonbbokhjlaaGreatStages
namespace Go.Proofs.YtbokonbbokhjlaaGreat
open Go.RowKit
def af (w:World) (v:Value) (z:Int) (k:Nat):Prop:=gh w v z∧Bd z.natAbs k
theorem af.kp {w w':World}{v:Value}{z:Int}{k:Nat} (h:af w v z k) (g:Kp w w'):af w' v z k:=⟨h.1.kp g,h.2⟩
theorem af.grown {w w':World}{v:Value}{z:Int}{k:Nat} (h:af w v z k) (g:w.grownBy w' none):af w' v z k:=⟨h.1.grown g,h.2⟩
theorem af.i {w:World}{v:Value}{z:Int}{k:Nat} (h:af w v z k):aC w v z k:=h.1.zE h.2
theorem af.more {w:World}{v:Value}{z:Int}{k l:Nat} (h:af w v z k) (hl:k<=l):af w v z l:=⟨h.1,h.2.more hl⟩
theorem af.eq {w:World}{v:Value}{z y:Int}{k:Nat} (h:af w v z k) (e:z=y):af w v y k:=e▸h
theorem aC.open {w:World}{v:Value}{z:Int}{k:Nat} (h:aC w v z k):∃b p n c,v = .agg #[.bool b,.slice p n c]∧aC w v z k:=by
 obtain ⟨b,s,X,rfl,h1,h2⟩:=h
 obtain ⟨p,n,c,rfl⟩:=h1.slice
 exact ⟨b,p,n,c,rfl,b,_,X,rfl,h1,h2⟩
theorem aC.bd' {w:World}{v:Value}{z:Int}{k:Nat} (h:aC w v z k):Bd z.natAbs k:=by
 obtain ⟨b,s,X,rfl,h1,rfl⟩:=h
 rw [ei];exact h1.bd
theorem an.grow {w w':World}{v:Value}{z:Int}{k:Nat} (h:an w v z k) (g:w.grownBy w' none):an w' v z k:=h.grown g
theorem an.fV {w:World}{v:Value}{z y:Int}{k:Nat} (h:an w v z k) (e:z=y):an w v y k:=e▸h
def kf (w:World) (z:Int) (k:Nat) (e:Ending) (w':World):Prop:=∃b p n c,e = .returned (.agg #[.bool b,.slice p n c])∧af w' (.agg #[.bool b,.slice p n c]) z k∧w.grownBy w' none
theorem eh.got {w w':World}{z:Int}{k:Nat}{e:Ending} (h:eh w z k e w'):kf w z k e w':=by
 obtain ⟨v,rfl,h1,h2,h3⟩:=h
 obtain ⟨p,c,rfl,-⟩:=id h1
 exact ⟨_,p,_,c,rfl,⟨h1.nor,h2⟩,h3⟩
def ie (w:World) (z:Int) (k:Nat) (e:Ending) (w':World):Prop:=∃p n c b,e = .returned (.agg #[.slice p n c,.bool b])∧an w' (.agg #[.slice p n c,.bool b]) z k∧w.grownBy w' none
theorem ie.mk {w w':World}{v:Value}{z:Int}{k:Nat} (h1:an w' v z k) (h3:w.grownBy w' none):ie w z k (.returned v) w':=by
 obtain ⟨p,c,rfl,-⟩:=id h1
 exact ⟨p,_,c,_,rfl,h1,h3⟩
theorem eT.got {w w':World}{z:Int}{k:Nat}{e:Ending} (h:eT w z k e w'):ie w z k e w':=by
 obtain ⟨v,rfl,h1,h2,h3⟩:=h
 exact .mk (h1.zF h2) h3
section
variable {w:World}{v u:Value}{z y t:Int}{i j:Nat}
theorem JO (hx:aC w v z i) (hy:aC w u y j) (hi:i+j<=1000000) (ht:z*y=t):Calls Tryz.prog 63 #[v,u] w (kf w t (i+j)):=ht▸(JP hx hy hi).mono fun _ _ h=>h.got
theorem JQ (hx:aC w v z i) (hy:aC w u y j) (hi:i+j<=1000000) (ht:z+y=t):Calls Tryz.prog 62 #[v,u] w (kf w t (i+j+1)):=ht▸(zG hx hy hi).mono fun _ _ h=>h.got
theorem JR (hx:aC w v z i) (hi:i<=1000000) (ht : -z=t):Calls Tryz.prog 85 #[v] w (kf w t i):=ht▸(JS hx hi).mono fun _ _ h=>h.got
theorem JT (hx:aC w v z i) (hi:i<=1000000):Calls Tryz.prog 69 #[v] w (kf w z i):=(JU hx hi).mono fun _ _ h=>h.got
theorem zH (z:Int) (h1 : -9223372036854775808<=z) (h2:z<=9223372036854775807) (ht:z=t):Calls Tryz.prog 59 #[.int .i64 z] w (kf w t 2):=ht▸(JV z w h1 h2).mono fun _ _ h=>h.got
def zI (w:World) (z:Int) (k:Nat) (e:Ending) (w':World):Prop:=∃b p n c,e = .returned (.tuple #[.agg #[.bool b,.slice p n c],.int .i64 0])∧af w' (.agg #[.bool b,.slice p n c]) z k∧w.grownBy w' none
theorem JW (hx:aC w v z i) (hy:aC w u y j) (hi:i+j<=900000) (h0:y≠0) (h1:y∣z) (ht:z / y=t):Calls Tryz.prog 113 #[v,u] w (zI w t i):=by
 subst ht
 have hb:Bd (z / y).natAbs i:=hx.bd'.le (Int.natAbs_ediv_le_natAbs ..)
 refine (JX hx hy hi ⟨h0,Int.emod_eq_zero_of_dvd h1⟩).mono fun e w' h=>?_
 obtain ⟨v,rfl,h2,h3,h4⟩:=h
 obtain ⟨p,c,rfl,-⟩:=id h2
 exact ⟨_,p,_,c,rfl,⟨h2.nor,hb⟩,h4⟩
theorem JY {g:Nat}{b0 b1:Bool}{p0 p1:Option Addr}{n0 c0 n1 c1:Nat}{z0 z1 t:Int}{k0 k1:Nat} (k:Nat) (h0:aC w (.agg #[.bool b0,.slice p0 n0 c0]) z0 k0) (h1:aC w (.agg #[.bool b1,.slice p1 n1 c1]) z1 k1) (l0:k0<=k) (l1:k1<=k) (hk:k<=1000000) (ht:(Int.gcd z0 z1:Int)=t) (x0:w.cell? ⟨g,0,none⟩=some (.bool b0)) (y0:w.cell? ⟨g,1,none⟩=some (.slice p0 n0 c0)) (x1:w.cell? ⟨g,2,none⟩=some (.bool b1)) (y1:w.cell? ⟨g,3,none⟩=some (.slice p1 n1 c1)) :
  Calls Tryz.prog 110 #[.slice (some ⟨g,0,none⟩) 2 2] w (kf w t k):=ht▸(JN k h0 h1 l0 l1 hk x0 y0 x1 y1).mono fun _ _ h=>h.got
theorem zJ (hx:an w v z i) (ht : -z=t):Calls Tryz.prog 80 #[v] w (ie w t i):=by
 subst ht
 refine (zK hx).mono fun e w' h=>?_
 obtain ⟨v,rfl,h1,h2⟩:=h
 exact .mk h1 h2
theorem tD (z:Int) (h1 : -9223372036854775808<=z) (h2:z<=9223372036854775807) (ht:z=t):Calls Tryz.prog 52 #[.int .i64 z] w (ie w t 2):=ht▸(JZ z w h1 h2).mono fun _ _ h=>h.got
theorem J0 (k:Nat) (hx:an w v z i) (hy:an w u y j) (l0:i<=k) (l1:j<=k) (hk:k+k<=1000000) (ht:(Int.gcd z y:Int)=t):Calls Tryz.prog 73 #[v,u] w (ie w t k):=by
 subst ht
 refine (JM (hx.more l0) (hy.more l1) hk).mono fun e w' h=>?_
 obtain ⟨v,rfl,h1,h2⟩:=h
 exact .mk h1 h2
theorem J1 (hx:an w v z i){b:Bool} (hb:decide (z=0)=b):Calls Tryz.prog 78 #[v] w (fun e w'=>e = .returned (.bool b)∧w.grownBy w' none):=hb▸J2 hx
end
end Go.Proofs.YtbokonbbokhjlaaGreat
