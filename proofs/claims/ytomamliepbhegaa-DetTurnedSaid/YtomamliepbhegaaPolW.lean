/- poly.Lead, and what poly.Move is made of: widened, narrowed, shift. poly.Move. -/
import Derived.Test.YtomamliepbhegaaPolX
namespace Go.Proofs.Ytomamliepbhegaa.Sym
open Go.RowKit
structure KL (S:Nat->Nat->Int) (u:Int) (n:Nat):Prop where
 low:∀j i,j<n->i<j->S (j+1) i=S j i
 top:∀j,j<n->S (j+1) (n-1)=S j (n-1)
 step:∀j i,j<=i->i+1<n->S (j+1) i=S j i+S (j+1) (i+1)*u
section
variable {S:Nat->Nat->Int}{u:Int}{n j i a:Nat}
end
section
variable {Φ:PH}{p q x n k:Nat}{z:Nat->Int}{t:Int}
end
theorem jr {P:Program}{Φ Ψ:PH}{f:FuncId}{ar ke:List Arg}{outs kf:List Out}{md md':Mode} (h:dJ Ψ P ⟨f,ke,kf,md'⟩) (ha:dE Φ Ψ ar ke) (ho:iR Ψ Φ kf outs):dJ Φ P ⟨f,ar,outs,md⟩:=
 fun X w vs hX h'=>(h X w vs hX (ha.ok h')).mono fun _ _w' ⟨hg,u,he,h2,h3⟩=>⟨hg,u,he,ho.ok h2,h3⟩
theorem dJ.call {P:Program}{Φ:PH}{f:FuncId}{ar:List Arg}{outs:List Out}{md:Mode} (h:dJ Φ P ⟨f,ar,outs,md⟩):aj Φ P ⟨f,ar,outs,false⟩:=
 fun X w vs hX h'=>(h X w vs hX h').mono fun _ _w' ⟨hg,u,he,h2,_⟩=>⟨hg,[u],he,h2⟩
theorem aC.off {sz n:Nat}{e:TypeId}{F:PH}{w w1:World}{v:Value}{X:Nat->Prop} (hF:∀i w w1 v,Kp w w1->F i w v->F i w1 v) (h:aC sz e F n w v) (ho:Off X w w1) (hb:∀g,blk v=some g->¬X g):aC sz e F n w1 v:=by
 obtain ⟨rows,r1,r2,r3,r4⟩:=h
 refine ⟨rows,r1,r2,r3.keep fun g hg=>ho.2 g (r3.lt g hg) (hb g (by rw [dj];exact hg)),fun i r hr=>hF _ _ _ _ ho.1 (r4 i r hr)⟩
section
variable {Φ:PH}{p q r x n k ku kd kp K:Nat}{z:Nat->Int}{u d:Int}
end
section
variable {Φ:PH}{p q r x n k ku kd kp K1 K2 K3:Nat}{z:Nat->Int}{u d:Int}
end
end Go.Proofs.Ytomamliepbhegaa.Sym
