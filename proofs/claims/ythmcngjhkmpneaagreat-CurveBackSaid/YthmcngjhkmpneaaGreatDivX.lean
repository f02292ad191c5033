/- The reference's Scale, To, Primitive (whole coefficients). -/
import Derived.Test.YthmcngjhkmpneaaGreatDivC
import Derived.Test.YthmcngjhkmpneaaGreatPolX
import Derived.Test.YthmcngjhkmpneaaGreatRatL
namespace Go.Proofs.YthmcngjhkmpneaaGreat.Sym
open Go.RowKit
theorem ae.fD {w:World}{v:Value}{z:Int}{k l:Nat} (h:ae w v z k) (hb:Bd z.natAbs l):ae w v z l:=by
 obtain ⟨p,c,h1,h2⟩:=h
 exact ⟨p,c,h1,h2.1,hb⟩
theorem ah.fD {w:World}{v:Value}{q:Rat}{k l:Nat} (h:ah w v q k) (h1:Bd q.num.natAbs l) (h2:Bd q.den l):ah w v q l:=by
 obtain ⟨p,n,c,b,p',n',c',b',h3,h4,h5⟩:=h
 exact ⟨p,n,c,b,p',n',c',b',h3,ae.fD h4 h1,ae.fD h5 (by rw [Int.natAbs_natCast];exact h2)⟩
section
variable {Φ:PH}{p x:Nat}
end
section
variable {Φ:PH}{p y x n k l K N:Nat}{q:Nat->Rat}{c:Rat}{z:Nat->Int}
end
def DU  : List WP:=[Dw (aD 0 1) 6,fun w v=>ae w v ((aD 0 1).num) 6,fun w v=>ae w v ((aD 0 1).den:Int) 6]
def DV:List Step:=[.base ⟨38,[.lit (.ci .i64 0),.lit (.ci .i64 1)],[⟨.agg [.s,.b,.s,.b],[(0,0,0),(0,2,1),(2,2,2)]⟩],false⟩]
def DW:List Out:=[]
set_option maxRecDepth 100000 in
theorem DX   : ai (ph (DU )) Tryz.prog ⟨51,[],[⟨.agg [.s,.b,.s,.b],[(0,0,0),(0,2,1),(2,2,2)]⟩],false⟩:=by
 skip
 exact bg DW [⟨.agg [.s,.b,.s,.b],[(0,0,0),(0,2,1),(2,2,2)]⟩] DV Tryz.func51 (by kernel_rfl)
  (lB (pf (z:=0) (y:=1) rfl rfl rfl (by decide) (by decide) (by decide) (by decide) rfl)
   aC)
  (aK [] trivial) bh
theorem um {Φ:PH}{x x1 x2:Nat} (hx:Φ x=Dw (aD 0 1) 6) (hx1:Φ x1=fun w v=>ae w v (aD 0 1).num 6) (hx2:Φ x2=fun w v=>ae w v ((aD 0 1).den:Int) 6):ai Φ Tryz.prog ⟨51,[],[⟨sS,[(0,0,x),(0,2,x1),(2,2,x2)]⟩],false⟩:=
 bi DX trivial ⟨⟨rfl,⟨rfl,rfl,fun _ _ h=>hx▸h⟩,⟨rfl,rfl,fun _ _ h=>hx1▸h⟩,⟨rfl,rfl,fun _ _ h=>hx2▸h⟩,trivial⟩,trivial⟩
section
variable {Φ:PH}{p q y x x1 x2 n m k l K N:Nat}{c:Int}{z:Nat->Int}{a:Bool}{xs:List Nat}
theorem pi {k:Nat} (h:1<=k):Bd 1 k:=Nat.one_lt_pow (by omega) (by omega)
theorem pg {f:Nat->Int}:∀{n:Nat},(0<n->f (n-1)≠0)->tl f n=n
 | 0,_=>rfl
 | n+1,h=>by
  unfold tl
  rw [if_neg (show ¬f n=0 from h (by omega))]
end
end Go.Proofs.YthmcngjhkmpneaaGreat.Sym
