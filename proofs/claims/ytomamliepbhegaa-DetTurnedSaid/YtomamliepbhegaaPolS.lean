/- poly.At; the reference's At, Whole, Sign, Ends. -/
import Derived.Test.YtomamliepbhegaaPolZ
import Derived.Test.YtomamliepbhegaaPolQ
namespace Go.Proofs.Ytomamliepbhegaa.Sym
open Go.RowKit
theorem af.re {w:World}{v:Value}{z:Int}{k l:Nat} (h:af w v z k) (hb:Bd z.natAbs l):af w v z l:=by
 obtain ⟨p,c,h1,h2⟩:=h
 exact ⟨p,c,h1,h2.1,hb⟩
theorem am.re {w:World}{v:Value}{q:Rat}{k l:Nat} (h:am w v q k) (h1:Bd q.num.natAbs l) (h2:Bd q.den l):am w v q l:=by
 obtain ⟨p,n,c,b,p',n',c',b',h3,h4,h5⟩:=h
 exact ⟨p,n,c,b,p',n',c',b',h3,af.re h4 h1,af.re h5 (by rw [Int.natAbs_natCast];exact h2)⟩
theorem af.zero (w:World) (k:Nat):af w (.agg #[.slice none 0 0,.bool false]) 0 k:=by
 refine ⟨none,0,by simp [ak,eG],?_,by show (0:Int).natAbs<_;exact Nat.pow_pos (by omega)⟩
 simpa [ak,eG] using Sl.nil w .i64
theorem af.n1 {z:Int}{k:Nat}{w:World}{l:List Value} (h:af w (.agg l.toArray) (((z:Int):Rat).den:Int) k):∃s,Value.agg ((l.drop 0).take 1).toArray = .agg #[s]∧Arr 1 (fun _ _ v=>v = .agg #[.int .i64 1]) 1 w s:=by
 have h':af w (.agg l.toArray) 1 k:=h
 obtain ⟨p,c,e,-⟩:=id h'
 have e1:(ak 10000 (1:Int).natAbs).length=1:=by decide
 rw [e1] at e
 simp only [Value.agg.injEq] at e
 have hl:l = [.slice p 1 c,.bool (decide ((1:Int)<0))]:=by have:=congrArg Array.toList e;simpa using this
 subst hl
 obtain ⟨blk,off,rfl,hc⟩:=af.one h'
 refine ⟨.slice (some ⟨blk,off,none⟩) 1 c,rfl,_,_,rfl,fun i hi=>⟨blk,off,rfl,[.int .i64 1],rfl,fun j u hj=>?_,rfl⟩⟩
 cases j with
 | succ j=>simp at hj
 | zero=>
  simp only [List.getElem?_cons_zero,Option.some.injEq] at hj
  subst hj
  obtain rfl:i=0:=by omega
  have hc':w.cell? ⟨blk,off,none⟩=some (.int .i64 1):=hc
  simpa using hc'
section
variable {P:Program}{Φ:PH}{p q x:Nat}
end
section
variable {Φ:PH}{p q x x1 x2 n k kr kk i:Nat}{z:Nat->Int}{r:Rat}
end
section
variable {Φ:PH}{p q x n k kr kk:Nat}{z:Nat->Int}{r:Rat}
end
section
variable {Φ:PH}{p q x x1 x2 y n k kr kk kt kn:Nat}{z:Nat->Int}{r:Rat}
end
end Go.Proofs.Ytomamliepbhegaa.Sym
