/- Numbers told by facts as arguments of Of, Pow, ratio.Of and Within; a row of two numbers; sizes of what is moved. -/
import Derived.Test.YthmcngjhkmpneaaGreatPolM
import Derived.Test.YthmcngjhkmpneaaGreatPolS
import Derived.Test.YthmcngjhkmpneaaGreatPolL
import Derived.Test.YthmcngjhkmpneaaGreatPolN
import Derived.Test.YthmcngjhkmpneaaGreatPows
namespace Go.Proofs.YthmcngjhkmpneaaGreat.Sym
open Go.RowKit
def z2 (a b:Int):Nat->Int
 | 0=>a
 | _=>b
section
variable {Φ:PH}{p q x x1 x2 j i K:Nat}{a b t z y m:Int}
theorem tq (k:Nat) (hp:∀w v,Φ p w v->aj w v a i) (hq:∀w v,Φ q w v->v = .int .i64 (k:Int)) (hx:Φ x=Nw t K) (hk:k<=256) (hi:i<=1000) (ht:a ^ k=t) (hK:Bd t.natAbs K):ai Φ Tryz.prog ⟨83,[.fact p,.fact q],[⟨iS,[(0,0,x)]⟩],false⟩:=
 bi (Ψ:=ph [Iw a i,Ni (k:Int),Nw t (i*256+1)]) (jt:=[.fact 0,.fact 1]) (ju:=[⟨iS,[(0,0,2)]⟩])
  (dj fun _ w v u h0 h1=>by
   rw [show u = .int .i64 (k:Int) from get h1]
   exact ((IN k k (.inr (.inl ⟨rfl,hk⟩)) (get h0) hi).mono fun _ _ h=>h.got).mono fun _ _ h=>fF (show _=fun w v=>ak w v (a ^ k) (i*256+1) by rw [ht];rfl) h)
  ⟨hp,hq,trivial⟩ ⟨⟨rfl,⟨rfl,rfl,fun _ _ h=>hx▸ak.re h hK⟩,trivial⟩,trivial⟩
end
theorem xr {c:Nat->Int}{u:Int}{K ku m:Nat} (hc:∀i,i<m->Bd (c i).natAbs K) (hu:Bd u.natAbs ku):∀r i,i+r<=m->Bd (hsum c u r i).natAbs (K+r*(ku+1))
 | 0,_,_=>by
  simp only [hsum]
  exact Nat.pow_pos (by omega)
 | r+1,i,h=>by
  have h1:=Bd.mul (xr hc hu r (i+1) (by omega)) hu
  have h2:=Bd.add1 ((hc i (by omega)).more (j:=K+r*(ku+1)+ku) (by omega)) h1
  rw [<- Int.natAbs_mul] at h2
  simp only [hsum]
  refine (h2.le (Int.natAbs_add_le _ _)).more ?_
  rw [Nat.succ_mul];omega
theorem qV {c:Nat->Int}{u:Int}{K ku m:Nat} (hc:∀i,i<m->Bd (c i).natAbs K) (hu:Bd u.natAbs ku):∀j i,i<m->Bd (shS c u m j i).natAbs (K+j*(m*(ku+1)))
 | 0,i,hi=>by
  simp only [shS]
  exact (hc i hi).more (by omega)
 | j+1,i,hi=>by
  have e:(j+1)*(m*(ku+1))=j*(m*(ku+1))+m*(ku+1):=Nat.succ_mul _ _
  simp only [shS]
  split
  ·exact (qV hc hu j i hi).more (by omega)
  ·refine (xr (qV hc hu j) hu (m-i) i (by omega)).more ?_
   have:=Nat.mul_le_mul_right (ku+1) (show m-i<=m by omega)
   omega
theorem IP {z:Nat->Int}{n:Nat}{d:Int}{k kd:Nat} (hz:∀i,i<tl z n->Bd (z i).natAbs k) (hd:Bd d.natAbs kd) (i:Nat) (hi:i<tl z n):Bd (iE z n d i).natAbs (k+(tl z n*kd+1)):=by
 unfold iE
 rw [Int.natAbs_mul,Int.natAbs_pow]
 refine (Bd.mul (hz i hi) (Bd.kg hd _)).more ?_
 have:=Nat.mul_le_mul_right kd (show tl z n-1-i<=tl z n by omega)
 omega
theorem CD {z:Nat->Int}{n:Nat}{u d:Int}{k kd ku:Nat} (hz:∀i,i<tl z n->Bd (z i).natAbs k) (hd:Bd d.natAbs kd) (hu:Bd u.natAbs ku) (j a:Nat) (ha:a<tl z n):Bd (mvS z n u d j a).natAbs (k+(tl z n*kd+1)+j*(tl z n*(ku+1))):=
 qV (IP hz hd) hu j a ha
end Go.Proofs.YthmcngjhkmpneaaGreat.Sym
