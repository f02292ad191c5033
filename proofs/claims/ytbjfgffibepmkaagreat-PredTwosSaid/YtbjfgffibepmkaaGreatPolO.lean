/- poly.At -/
import Derived.Test.YtbjfgffibepmkaaGreatPolQ
import Derived.Deep.DeepCutAuto
import Derived.Test.YtbjfgffibepmkaaGreatPolL
namespace Go.Proofs.YtbjfgffibepmkaaGreat.Sym
open Go.RowKit
variable {w:World}{v:Value}{z:Int}{l:Nat}
theorem ai.re {k:Nat} (h:ai w v z k) (hb:Bd z.natAbs l):ai w v z l:=by
 obtain ⟨p,c,h1,h2⟩:=h
 exact ⟨p,c,h1,h2.1,hb⟩
theorem af.re {q:Rat}{k:Nat} (h:af w v q k) (h1:Bd q.num.natAbs l) (h2:Bd q.den l):af w v q l:=by
 obtain ⟨p,n,c,b,p',n',c',b',h3,h4,h5⟩:=h
 exact ⟨p,n,c,b,p',n',c',b',h3,ai.re h4 h1,ai.re h5 (by rw [Int.natAbs_natCast];exact h2)⟩
theorem ai.zero (w:World) (k:Nat):ai w (.agg #[.slice none 0 0,.bool false]) 0 k:=by
 refine ⟨none,0,by simp [am,gJ],?_,by show (0:Int).natAbs<_;exact Nat.pow_pos (by omega)⟩
 simpa [am,gJ] using Sl.nil w .i64
theorem ai.n1 {k:Nat}{l:List Value} (h:ai w (.agg l.toArray) (((z:Int):Rat).den:Int) k):∃s,Value.agg ((l.drop 0).take 1).toArray = .agg #[s]∧Arr 1 (fun _ _ v=>v = .agg #[.int .i64 1]) 1 w s:=by
 have h':ai w (.agg l.toArray) 1 k:=h
 obtain ⟨p,c,e,-⟩:=id h'
 have e1:(am 10000 (1:Int).natAbs).length=1:=by decide
 rw [e1] at e
 simp only [Value.agg.injEq] at e
 have hl:l = [.slice p 1 c,.bool (decide ((1:Int)<0))]:=by have:=congrArg Array.toList e;simpa using this
 subst hl
 obtain ⟨blk,off,rfl,hc⟩:=ai.one h'
 refine ⟨.slice (some ⟨blk,off,none⟩) 1 c,rfl,_,_,rfl,fun i hi=>⟨blk,off,rfl,[.int .i64 1],rfl,fun j u hj=>?_,rfl⟩⟩
 cases j with
 | succ j=>simp at hj
 | zero=>
  simp only [List.getElem?_cons_zero,Option.some.injEq] at hj
  subst hj
  obtain rfl:i=0:=by omega
  have hc':w.cell? ⟨blk,off,none⟩=some (.int .i64 1):=hc
  simpa using hc'
section
variable {P:Program}{Φ:PH}{p q x:Nat}
end
section
variable {Φ:PH}{p q x x1 x2 n k kr kk i:Nat}{z:Nat->Int}{r:Rat}
end
section
variable {Φ:PH}{p q x n k kr kk:Nat}{z:Nat->Int}{r:Rat}
end
section
variable {Φ:PH}{p q x x1 x2 y n k kr kk kt kn:Nat}{z:Nat->Int}{r:Rat}
end
end Go.Proofs.YtbjfgffibepmkaaGreat.Sym
namespace Go.Proofs.YtbjfgffibepmkaaGreat
open Go.RowKit
variable {w:World}{B:Nat}{v:Value}{z:Int}
theorem fl.mono {B':Nat} (h:fl w B v z) (hB:B'<=B):fl w B' v z:=by
 obtain ⟨p,cap,h1,h2⟩:=h
 exact ⟨p,cap,h1,h2.mono hB⟩
theorem fl.lt {u:Value} (h:fl w B (.agg #[u,v]) z):∀g,v.ownBlock=some g->B<=g∧g<w.heap.size:=by
 obtain ⟨p,cap,h1,h2⟩:=h
 simp only [Value.agg.injEq,Array.mk.injEq,List.cons.injEq,and_true] at h1
 rw [h1.2]
 exact h2.lt
theorem aF.bd {k:Nat} (h:aF w v z k):Bd z.natAbs k:=by
 obtain ⟨b,s,X,rfl,h2,rfl⟩:=h
 rw [ee]
 exact h2.bd
end Go.Proofs.YtbjfgffibepmkaaGreat
namespace Go.Proofs.YtbjfgffibepmkaaGreat.Sym
open Go.RowKit
variable {z:Nat->Int}{k kd n:Nat}{d:Int}
def z2 (a b:Int):Nat->Int
 | 0=>a
 | _=>b
section
variable {Φ:PH}{p q x x1 x2 j i K:Nat}{a b t z y m:Int}
end
theorem CP {c:Nat->Int}{u:Int}{K ku m:Nat} (hc:∀i,i<m->Bd (c i).natAbs K) (hu:Bd u.natAbs ku):∀r i,i+r<=m->Bd (hsum c u r i).natAbs (K+r*(ku+1))
 | 0,_,_=>by
  simp only [hsum]
  exact Nat.pow_pos (by omega)
 | r+1,i,h=>by
  have h1:=Bd.mul (CP hc hu r (i+1) (by omega)) hu
  have h2:=Bd.add1 ((hc i (by omega)).more (j:=K+r*(ku+1)+ku) (by omega)) h1
  rw [<- Int.natAbs_mul] at h2
  simp only [hsum]
  refine (h2.le (Int.natAbs_add_le _ _)).more ?_
  rw [Nat.succ_mul];omega
theorem uW {c:Nat->Int}{u:Int}{K ku m:Nat} (hc:∀i,i<m->Bd (c i).natAbs K) (hu:Bd u.natAbs ku):∀j i,i<m->Bd (shS c u m j i).natAbs (K+j*(m*(ku+1)))
 | 0,i,hi=>by
  simp only [shS]
  exact (hc i hi).more (by omega)
 | j+1,i,hi=>by
  have e:(j+1)*(m*(ku+1))=j*(m*(ku+1))+m*(ku+1):=Nat.succ_mul _ _
  simp only [shS]
  split
  ·exact (uW hc hu j i hi).more (by omega)
  ·refine (CP (uW hc hu j) hu (m-i) i (by omega)).more ?_
   have:=Nat.mul_le_mul_right (ku+1) (show m-i<=m by omega)
   omega
theorem QO  (hz:∀i,i<tl z n->Bd (z i).natAbs k) (hd:Bd d.natAbs kd) (i:Nat) (hi:i<tl z n):Bd (me z n d i).natAbs (k+(tl z n*kd+1)):=by
 unfold me
 rw [Int.natAbs_mul,Int.natAbs_pow]
 refine (Bd.mul (hz i hi) (Bd.sR hd _)).more ?_
 have:=Nat.mul_le_mul_right kd (show tl z n-1-i<=tl z n by omega)
 omega
theorem IL {u:Int}{ku:Nat} (hz:∀i,i<tl z n->Bd (z i).natAbs k) (hd:Bd d.natAbs kd) (hu:Bd u.natAbs ku) (j a:Nat) (ha:a<tl z n):Bd (mvS z n u d j a).natAbs (k+(tl z n*kd+1)+j*(tl z n*(ku+1))):=
 uW (QO hz hd) hu j a ha
theorem CQ (k:Nat):Bd (0:Int).natAbs k:=Nat.pow_pos (by omega)
theorem Kt {y:Nat->Int}{m k':Nat} (hz:∀i,i<n->Bd (z i).natAbs k) (hy:∀i,i<m->Bd (y i).natAbs k') (i:Nat):Bd (ae (mulL z n y m) i).natAbs (k+k'+n):=by
 unfold mulL
 split
 ·rw [eT (h:=(by simp))];exact CQ _
 ·rw [cM]
  split
  ·have h1:=bi z n
   have h2:=bi y m
   exact (uS (c:=n) hz (fun i hi=>hy i (by omega)) h1 h1 i).more (by omega)
  ·exact CQ _
theorem zm (x:Rat) (n:Nat) (z:Nat->Int):ev x (an (mk n z)).length (ae (an (mk n z)))=ev x n z:=by
 rw [<- ji (x:=x) (m:=n) (fun i hi=>eT (h:=hi)) (by rw [eQ];exact bi _ _)]
 exact iA fun i hi=>by rw [fM,cM,if_pos hi]
end Go.Proofs.YtbjfgffibepmkaaGreat.Sym
