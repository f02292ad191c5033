/- poly.Lead, and what poly -/
import Derived.Test.YtomamliepbhegaaGreatPolX
namespace Go.Proofs.YtomamliepbhegaaGreat.Sym
open Go.RowKit
variable {i m n:Nat}{f:Nat->Int}{P:Program}{Φ:PH}{ar:List Arg}{outs:List Out}{md:Mode}
def dc (z:Nat->Int) (n:Nat):Int:=if tl z n=0 then 0 else z (tl z n-1)
def dto (m j:Nat) (f:Nat->Int) (i:Nat):Int:=if m-j<=i∧i<m then f i else 0
theorem uT :dto m 0 f i=0:=if_neg (by omega)
theorem uU {j:Nat} (h:i≠m-1-j) (hj:j<m:=by omega):dto m (j+1) f i=dto m j f i:=by
 unfold dto
 split <;> split <;> first | rfl | omega
structure agl (S:Nat->Nat->Int) (u:Int) (n:Nat):Prop where
 low:∀j i,j<n->i<j->S (j+1) i=S j i
 top:∀j,j<n->S (j+1) (n-1)=S j (n-1)
 step:∀j i,j<=i->i+1<n->S (j+1) i=S j i+S (j+1) (i+1)*u
section
variable {S:Nat->Nat->Int}{u:Int}{j a:Nat}
end
def aav (z:Nat->Int) (n k:Nat):List WP:=[Rw 2 (If z k) n,Rw 2 (If z k) (tl z n),Ni ((((tl z n):Nat):Int)-1),Nz (tl z n-1),Iw (dc z n) k,Nw (dc z n) k]
def aaw:List Step:=[.base ⟨42,[0],[oS 1],false⟩,.base ⟨35,[1],[oN 2],false⟩,bQ [2,.lit (.ci .i64 0)] [oN 3] (hO .max),.base ⟨83,[1,3],[oI 4],false⟩,.base ⟨91,[4],[oI 5],false⟩]
def aax:List Out:=[oS 0]
set_option maxRecDepth 100000 in
theorem aay {z:Nat->Int}{k:Nat} (hn:n<=1000000) (hk:k<=500000):aj (ph (aav z n k)) Tryz.prog ⟨64,[0],[oI 5],false⟩:=by
 have hle:=aL z n
 exact aV aax [oI 5] aaw Tryz.func64 (by kernel_rfl) (lB (iN (z:=z) (n:=n) (k:=k) (F:=(If z k)) ad bg (fun _ _ _ _ g h=>aE.kp h g) rfl) (lB (kG (n:=(tl z n)) (fun _ _ h=>Rw.iZ (sz:=2) (F:=(If z k)) (n:=(tl z n)) h) rfl (ht:=(rfl))) (lB (Zs ad (by split <;> omega) rfl) (lB (ye (z:=z) (n:=(tl z n)) (i:=(tl z n-1)) (Rw.To 2 (If z k) (tl z n) (fun _ _ _ _ h=>h)) ad rfl (fun h=>(if_neg (by omega)).symm) (fun h=>if_pos (by omega))) (lB (vd iI rfl rfl) au)))))
  (aK [.fact 0 (.one (.s))] ⟨Rw.Is 2 (If z k) n,trivial⟩) bg
section
variable {p q x k:Nat}{z:Nat->Int}{t:Int}
theorem kD (hp:∀w v,Φ p w v->Rw 2 (If z k) n w v) (hx:Φ x=Nw t k) (hn:n<=1000000) (hk:k<=500000) (ht:dc z n=t):aj Φ Tryz.prog ⟨64,[.fact p],[⟨iS,[(0,0,x)]⟩],false⟩:=
 aW (aay hn hk) ⟨hp,trivial⟩ ⟨⟨rfl,⟨rfl,rfl,fun _ _ h=>hx▸ht▸h⟩,trivial⟩,trivial⟩
end
theorem rP {Ψ:PH}{f:FuncId}{qT:List Arg}{qU:List Out}{md':Mode} (h:gw Ψ P ⟨f,qT,qU,md'⟩) (ha:fu Φ Ψ ar qT) (ho:oU Ψ Φ qU outs):gw Φ P ⟨f,ar,outs,md⟩:=
 fun X w vs hX h'=>(h X w vs hX (ha.ok h')).mono fun _ _w' ⟨hg,u,he,h2,h3⟩=>⟨hg,u,he,ho.ok h2,h3⟩
theorem gw.call {f:FuncId} (h:gw Φ P ⟨f,ar,outs,md⟩):aj Φ P ⟨f,ar,outs,false⟩:=
 fun X w vs hX h'=>(h X w vs hX h').mono fun _ _w' ⟨hg,u,he,h2,_⟩=>⟨hg,[u],he,h2⟩
theorem ah.off {sz:Nat}{e:TypeId}{F:PH}{w w1:World}{v:Value}{X:Nat->Prop} (hF:∀i w w1 v,Kp w w1->F i w v->F i w1 v) (h:ah sz e F n w v) (ho:Off X w w1) (hb:∀g,blk v=some g->¬X g):ah sz e F n w1 v:=by
 obtain ⟨rows,r1,r2,r3,r4⟩:=h
 refine ⟨rows,r1,r2,r3.keep fun g hg=>ho.2 g (r3.lt g hg) (hb g (by rw [gW];exact hg)),fun i r hr=>hF _ _ _ _ ho.1 (r4 i r hr)⟩
section
variable {p q r x k ku kd kp K:Nat}{z:Nat->Int}{u d:Int}
end
section
variable {p q r x k ku kd kp K1 K2 K3:Nat}{z:Nat->Int}{u d:Int}
end
end Go.Proofs.YtomamliepbhegaaGreat.Sym
