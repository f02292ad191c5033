/- poly.Lead, and what poly -/
import Derived.Test.YtbjfgffibepmkaaGreatPolX
namespace Go.Proofs.YtbjfgffibepmkaaGreat.Sym
open Go.RowKit
variable {n:Nat}{P:Program}{Φ:PH}{f:FuncId}{ar:List Arg}{outs:List Out}{md:Mode}
structure aaA (S:Nat->Nat->Int) (u:Int) (n:Nat):Prop where
 low:∀j i,j<n->i<j->S (j+1) i=S j i
 top:∀j,j<n->S (j+1) (n-1)=S j (n-1)
 step:∀j i,j<=i->i+1<n->S (j+1) i=S j i+S (j+1) (i+1)*u
section
variable {S:Nat->Nat->Int}{u:Int}{j i a:Nat}
end
section
variable {p q x k:Nat}{z:Nat->Int}{t:Int}
end
def hsum (c:Nat->Int) (u:Int):Nat->Nat->Int
 | 0,_=>0
 | r+1,i=>c i+hsum c u r (i+1)*u
def shS (c:Nat->Int) (u:Int) (m:Nat):Nat->Nat->Int
 | 0,i=>c i
 | j+1,i=>if i<j then shS c u m j i else hsum (shS c u m j) u (m-i) i
def me (z:Nat->Int) (n:Nat) (d:Int) (i:Nat):Int:=z i*d ^ (tl z n-1-i)
def mvS (z:Nat->Int) (n:Nat) (u d:Int):Nat->Nat->Int:=shS (me z n d) u (tl z n)
def mvL (z:Nat->Int) (n:Nat) (u d:Int):List Int:=mk (tl z n) fun i=>mvS z n u d (tl z n) i*d ^ i
theorem pN (z:Nat->Int) (n:Nat) (u d:Int):(mvL z n u d).length=tl z n:=dC _ _
theorem sU {z:Nat->Int}{u d:Int}{i:Nat} (h:i<tl z n):ae (mvL z n u d) i=mvS z n u d (tl z n) i*d ^ i:=by rw [mvL,cM,if_pos h]
theorem jD {Ψ:PH}{ot:List Arg}{ou:List Out}{md':Mode} (h:eY Ψ P ⟨f,ot,ou,md'⟩) (ha:fF Φ Ψ ar ot) (ho:kZ Ψ Φ ou outs):eY Φ P ⟨f,ar,outs,md⟩:=
 fun X w vs hX h'=>(h X w vs hX (ha.ok h')).mono fun _ _w' ⟨hg,u,he,h2,h3⟩=>⟨hg,u,he,ho.ok h2,h3⟩
theorem eY.call  (h:eY Φ P ⟨f,ar,outs,md⟩):aj Φ P ⟨f,ar,outs,false⟩:=
 fun X w vs hX h'=>(h X w vs hX h').mono fun _ _w' ⟨hg,u,he,h2,_⟩=>⟨hg,[u],he,h2⟩
theorem aC.off {sz:Nat}{e:TypeId}{F:PH}{w w1:World}{v:Value}{X:Nat->Prop} (hF:∀i w w1 v,Kp w w1->F i w v->F i w1 v) (h:aC sz e F n w v) (ho:Off X w w1) (hb:∀g,blk v=some g->¬X g):aC sz e F n w1 v:=by
 obtain ⟨rows,r1,r2,r3,r4⟩:=h
 refine ⟨rows,r1,r2,r3.keep fun g hg=>ho.2 g (r3.lt g hg) (hb g (by rw [eM];exact hg)),fun i r hr=>hF _ _ _ _ ho.1 (r4 i r hr)⟩
section
variable {p q r x k ku kd kp K:Nat}{z:Nat->Int}{u d:Int}
end
section
variable {p q r x k ku kd kp K1 K2 K3:Nat}{z:Nat->Int}{u d:Int}
end
end Go.Proofs.YtbjfgffibepmkaaGreat.Sym
