/- Numbers told by facts as arguments of Of, Pow, ratio.Of and Within; a row of two numbers; sizes of what is moved. -/
import Derived.Test.YthmcngjhkmpneaaGreatPolM
import Derived.Test.YthmcngjhkmpneaaGreatPolS
import Derived.Test.YthmcngjhkmpneaaGreatPolL
import Derived.Test.YthmcngjhkmpneaaGreatPolN
import Derived.Test.YthmcngjhkmpneaaGreatPows
namespace Go.Proofs.YthmcngjhkmpneaaGreat.Sym
open Go.RowKit
def o3 (v:Int) (n:Nat):Nat:=(if v.tmod n<0 then v.tmod n+n else v.tmod n).toNat
theorem NO (v:Int){n:Nat} (hn:1<=n):v.tmod n<n ∧ -(n:Int)<v.tmod n:=by
 refine ⟨Int.tmod_lt_of_pos v (show (0:Int)<n by omega),?_⟩
 rcases Int.le_total 0 v with h | h
 ·have:=Int.tmod_nonneg (b:=(n:Int)) h;omega
 ·have e:=Int.neg_tmod (a:=-v) (b:=(n:Int))
  rw [Int.neg_neg] at e
  have:=Int.tmod_lt_of_pos (-v) (show (0:Int)<n by omega)
  omega
theorem rg (v:Int){n:Nat} (hn:1<=n):o3 v n<n:=by
 obtain ⟨t,t2⟩:=NO v hn
 unfold o3
 split <;> omega
theorem Rp (v:Int) (n:Nat) (w:World) (hn:1<=n) (hn2:n<=1000000) :
  Calls Tryz.prog 48 #[.int .i64 v,.int .i64 n] w fun e w'=>e = .returned (.int .i64 (o3 v n))∧w=w':=by
 have h1:¬(n:Int)<1:=by omega
 have h2:(1:Int)<=(n:Int):=by omega
 obtain ⟨t,t2⟩:=NO v hn
 by_cases hk:v.tmod n<0
 ·have E:Hid ((o3 v n:Int)=v.tmod n+n):=Lib.hid (by unfold o3;rw [if_pos hk];omega)
  go_enter Tryz.func48,Tryz.ntmps48
  go_wp2
  go_ret
  exact ⟨eg (by rw [E.out]),rfl⟩
 ·have E:Hid ((o3 v n:Int)=v.tmod n):=Lib.hid (by unfold o3;rw [if_neg hk];omega)
  go_enter Tryz.func48,Tryz.ntmps48
  go_wp2
  go_ret
  exact ⟨eg (by rw [E.out]),rfl⟩
def z2 (a b:Int):Nat->Int
 | 0=>a
 | _=>b
section
variable {Φ:PH}{p q x x1 x2 j i K:Nat}{a b t z y m:Int}
theorem Cy {n k:Nat}{ni:Int} (hn:(n:Int)=ni) (hp:∀w v,Φ p w v->v = .int .i64 m) (h1:1<=n) (h2:n<=1000000) (hw:o3 m n=k) (hx:Φ x=Ni (k:Int)):ai Φ Tryz.prog ⟨48,[.fact p,.lit (.ci .i64 ni)],[oN x],false⟩:=dj fun X w v u g1 g2=>by
 subst hn
 rw [hp _ _ (get g1)]
 have h3:u = .int .i64 (n:Int):=g2
 subst h3
 refine (Rp m n w h1 h2).mono fun e w' h=>?_
 obtain ⟨rfl,rfl⟩:=h
 rw [hw]
 exact ⟨aQ _ _,[_],rfl,⟨⟨⟨_,rfl⟩,fun _ h=>by cases h⟩,fun q hq w1 hw=>by
  simp only [List.mem_singleton] at hq;subst hq
  show Φ x w1 _;rw [hx];rfl⟩,trivial⟩
theorem tq (k:Nat) (hp:∀w v,Φ p w v->aj w v a i) (hq:∀w v,Φ q w v->v = .int .i64 (k:Int)) (hx:Φ x=Nw t K) (hk:k<=256) (hi:i<=1000) (ht:a ^ k=t) (hK:Bd t.natAbs K):ai Φ Tryz.prog ⟨83,[.fact p,.fact q],[⟨iS,[(0,0,x)]⟩],false⟩:=
 bi (Ψ:=ph [Iw a i,Ni (k:Int),Nw t (i*256+1)]) (jt:=[.fact 0,.fact 1]) (ju:=[⟨iS,[(0,0,2)]⟩])
  (dj fun _ w v u h0 h1=>by
   rw [show u = .int .i64 (k:Int) from get h1]
   exact ((IN k k (.inr (.inl ⟨rfl,hk⟩)) (get h0) hi).mono fun _ _ h=>h.got).mono fun _ _ h=>fF (show _=fun w v=>ak w v (a ^ k) (i*256+1) by rw [ht];rfl) h)
  ⟨hp,hq,trivial⟩ ⟨⟨rfl,⟨rfl,rfl,fun _ _ h=>hx▸ak.re h hK⟩,trivial⟩,trivial⟩
end
theorem xr {c:Nat->Int}{u:Int}{K ku m:Nat} (hc:∀i,i<m->Bd (c i).natAbs K) (hu:Bd u.natAbs ku):∀r i,i+r<=m->Bd (hsum c u r i).natAbs (K+r*(ku+1))
 | 0,_,_=>by
  simp only [hsum]
  exact Nat.pow_pos (by omega)
 | r+1,i,h=>by
  have h1:=Bd.mul (xr hc hu r (i+1) (by omega)) hu
  have h2:=Bd.add1 ((hc i (by omega)).more (j:=K+r*(ku+1)+ku) (by omega)) h1
  rw [<- Int.natAbs_mul] at h2
  simp only [hsum]
  refine (h2.le (Int.natAbs_add_le _ _)).more ?_
  rw [Nat.succ_mul];omega
theorem qV {c:Nat->Int}{u:Int}{K ku m:Nat} (hc:∀i,i<m->Bd (c i).natAbs K) (hu:Bd u.natAbs ku):∀j i,i<m->Bd (shS c u m j i).natAbs (K+j*(m*(ku+1)))
 | 0,i,hi=>by
  simp only [shS]
  exact (hc i hi).more (by omega)
 | j+1,i,hi=>by
  have e:(j+1)*(m*(ku+1))=j*(m*(ku+1))+m*(ku+1):=Nat.succ_mul _ _
  simp only [shS]
  split
  ·exact (qV hc hu j i hi).more (by omega)
  ·refine (xr (qV hc hu j) hu (m-i) i (by omega)).more ?_
   have:=Nat.mul_le_mul_right (ku+1) (show m-i<=m by omega)
   omega
theorem IP {z:Nat->Int}{n:Nat}{d:Int}{k kd:Nat} (hz:∀i,i<tl z n->Bd (z i).natAbs k) (hd:Bd d.natAbs kd) (i:Nat) (hi:i<tl z n):Bd (iE z n d i).natAbs (k+(tl z n*kd+1)):=by
 unfold iE
 rw [Int.natAbs_mul,Int.natAbs_pow]
 refine (Bd.mul (hz i hi) (Bd.kg hd _)).more ?_
 have:=Nat.mul_le_mul_right kd (show tl z n-1-i<=tl z n by omega)
 omega
theorem CD {z:Nat->Int}{n:Nat}{u d:Int}{k kd ku:Nat} (hz:∀i,i<tl z n->Bd (z i).natAbs k) (hd:Bd d.natAbs kd) (hu:Bd u.natAbs ku) (j a:Nat) (ha:a<tl z n):Bd (mvS z n u d j a).natAbs (k+(tl z n*kd+1)+j*(tl z n*(ku+1))):=
 qV (IP hz hd) hu j a ha
theorem Rq (k:Nat):Bd (0:Int).natAbs k:=Nat.pow_pos (by omega)
theorem Ru {u d:Int}{k:Nat} (h0:d≠0) (hu:Bd u.natAbs k) (hd:Bd d.natAbs k):Bd (Rat.divInt u d).num.natAbs k∧Bd (Rat.divInt u d).den k:=⟨hu.le (o8 _ _),hd.le (o9 h0)⟩
theorem Rg {q r:Rat}{k:Nat} (hq:Bd q.num.natAbs k∧Bd q.den k) (hr:Bd r.num.natAbs k∧Bd r.den k):Bd (q+r).num.natAbs (k+k+1)∧Bd (q+r).den (k+k+1):=by
 have hq0:((q.den:Nat):Int)≠0:=by have:=q.den_nz;omega
 have hr0:((r.den:Nat):Int)≠0:=by have:=r.den_nz;omega
 have e:q+r=Rat.divInt (q.num*r.den+r.num*q.den) (q.den*r.den):=by
  conv=>lhs;rw [<- Rat.num_divInt_den q,<- Rat.num_divInt_den r]
  exact Rat.divInt_add_divInt _ _ hq0 hr0
 rw [e]
 refine Ru (Int.mul_ne_zero hq0 hr0) ?_ ?_
 ·refine (Bd.add1 (Bd.mul hq.1 hr.2) (Bd.mul hr.1 hq.2)).le ?_
  have:=Int.natAbs_add_le (q.num*r.den) (r.num*q.den)
  rw [Int.natAbs_mul,Int.natAbs_mul,Int.natAbs_natCast,Int.natAbs_natCast] at this
  exact this
 ·rw [Int.natAbs_mul,Int.natAbs_natCast,Int.natAbs_natCast]
  exact (Bd.mul hq.2 hr.2).more (by omega)
theorem Rf {z:Nat->Int}{n k kt kn c:Nat}{q:Rat} (hz:∀i,i<n->Bd (z i).natAbs k) (hq:Bd q.num.natAbs kt∧Bd q.den kt) (hc:tl z n<=c) (hk:k+c*(kt+1)+1<=kn) (j:Nat) (hj:j<=tl z n-1):Bd (hN z (tl z n) q.num q.den j).natAbs kn∧Bd (((q.den:Nat):Int) ^ j).natAbs kn:=by
 have hl:=aV z n
 have h1:=Nat.mul_le_mul_right (kt+1) (show j<=c by omega)
 have h2:j*(kt+1)=j*kt+j:=by rw [Nat.mul_add,Nat.mul_one]
 constructor
 ·rcases Nat.eq_zero_or_pos (tl z n) with h0 | h0
  ·obtain rfl:j=0:=by omega
   simp only [hN];rw [if_pos h0];exact Rq _
  ·exact (La h0 (fun i hi=>hz i (by omega)) hq.1 (by rw [Int.natAbs_natCast];exact hq.2) j).more (by omega)
 ·rw [Int.natAbs_pow,Int.natAbs_natCast]
  exact (Bd.kg hq.2 j).more (by omega)
end Go.Proofs.YthmcngjhkmpneaaGreat.Sym
