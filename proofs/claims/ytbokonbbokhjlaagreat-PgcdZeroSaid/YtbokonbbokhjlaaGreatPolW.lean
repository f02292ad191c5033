/- poly.Lead, and what poly.Move is made of: widened, narrowed, shift. poly.Move. -/
import Derived.Test.YtbokonbbokhjlaaGreatPolX
namespace Go.Proofs.YtbokonbbokhjlaaGreat.Sym
open Go.RowKit
def cD (z:Nat->Int) (n:Nat):Int:=if tl z n=0 then 0 else z (tl z n-1)
def dto (m j:Nat) (f:Nat->Int) (i:Nat):Int:=if m-j<=i∧i<m then f i else 0
theorem sm {m i:Nat}{f:Nat->Int}:dto m 0 f i=0:=if_neg (by omega)
theorem sn {m j i:Nat}{f:Nat->Int} (hj:j<m) (h:i≠m-1-j):dto m (j+1) f i=dto m j f i:=by
 unfold dto
 split <;> split <;> first | rfl | omega
structure XA (S:Nat->Nat->Int) (u:Int) (n:Nat):Prop where
 low:∀j i,j<n->i<j->S (j+1) i=S j i
 top:∀j,j<n->S (j+1) (n-1)=S j (n-1)
 step:∀j i,j<=i->i+1<n->S (j+1) i=S j i+S (j+1) (i+1)*u
section
variable {S:Nat->Nat->Int}{u:Int}{n j i a:Nat}
end
def Tg (z:Nat->Int) (n k:Nat):List WP:=[Rw 2 (If z k) n,Rw 2 (If z k) (tl z n),Ni ((((tl z n):Nat):Int)-1),Nz (tl z n-1),Iw (cD z n) k,Nw (cD z n) k]
def Th:List Step:=[.base ⟨60,[.fact 0],[oS 1],false⟩,
   .base ⟨49,[.fact 1],[oN 2],false⟩,
   bQ [.fact 2,.lit (.ci .i64 0)] [oN 3] (gm .max),
   .base ⟨70,[.fact 1,.fact 3],[oI 4],false⟩,
   .base ⟨69,[.fact 4],[oI 5],false⟩]
def Ti:List Out:=[oS 0]
set_option maxRecDepth 100000 in
theorem Tj {z:Nat->Int}{n k:Nat} (hn:n<=1000000) (hk:k<=500000):ai (ph (Tg z n k)) Tryz.prog ⟨33,[.fact 0],[oI 5],false⟩:=by
 have hle:=aF z n
 exact aV Ti [oI 5] Th Tryz.func33 (by kernel_rfl)
  (lB (gS (z:=z) (n:=n) (k:=k) (F:=(If z k)) ad bc (fun _ _ _ _ g h=>aC.kp h g) rfl (by omega) (by omega))
   (lB (iL (n:=(tl z n)) (fun _ _ h=>Rw.iM (sz:=2) (F:=(If z k)) (n:=(tl z n)) h) rfl (by omega) (rfl))
   (lB (R8 ad (by split <;> omega) rfl)
   (lB (vC (z:=z) (n:=(tl z n)) (i:=(tl z n-1)) (Rw.To 2 (If z k) (tl z n) (fun _ _ _ _ h=>h)) ad rfl (by omega) (fun h=>(if_neg (by omega)).symm) (fun h=>if_pos (by omega)))
   (lB (sC iI rfl (by omega) rfl)
   aw)))))
  (aL [.fact 0 (.one (.s))] ⟨Rw.Is 2 (If z k) n,trivial⟩) bc
section
variable {Φ:PH}{p q x n k:Nat}{z:Nat->Int}{t:Int}
theorem iJ (hp:∀w v,Φ p w v->Rw 2 (If z k) n w v) (hx:Φ x=Nw t k) (hn:n<=1000000) (hk:k<=500000) (ht:cD z n=t):ai Φ Tryz.prog ⟨33,[.fact p],[⟨iS,[(0,0,x)]⟩],false⟩:=
 aW (Tj hn hk) ⟨hp,trivial⟩ ⟨⟨rfl,⟨rfl,rfl,fun _ _ h=>hx▸ht▸h⟩,trivial⟩,trivial⟩
end
theorem pG {P:Program}{Φ Ψ:PH}{f:FuncId}{ar oH:List Arg}{outs oJ:List Out}{md md':Mode} (h:fO Ψ P ⟨f,oH,oJ,md'⟩) (ha:fK Φ Ψ ar oH) (ho:mL Ψ Φ oJ outs):fO Φ P ⟨f,ar,outs,md⟩:=
 fun X w vs hX h'=>(h X w vs hX (ha.ok h')).mono fun _ _w' ⟨hg,u,he,h2,h3⟩=>⟨hg,u,he,ho.ok h2,h3⟩
theorem fO.call {P:Program}{Φ:PH}{f:FuncId}{ar:List Arg}{outs:List Out}{md:Mode} (h:fO Φ P ⟨f,ar,outs,md⟩):ai Φ P ⟨f,ar,outs,false⟩:=
 fun X w vs hX h'=>(h X w vs hX h').mono fun _ _w' ⟨hg,u,he,h2,_⟩=>⟨hg,[u],he,h2⟩
theorem ah.off {sz n:Nat}{e:TypeId}{F:PH}{w w1:World}{v:Value}{X:Nat->Prop} (hF:∀i w w1 v,Kp w w1->F i w v->F i w1 v) (h:ah sz e F n w v) (ho:Off X w w1) (hb:∀g,blk v=some g->¬X g):ah sz e F n w1 v:=by
 obtain ⟨rows,r1,r2,r3,r4⟩:=h
 refine ⟨rows,r1,r2,r3.keep fun g hg=>ho.2 g (r3.lt g hg) (hb g (by rw [gi];exact hg)),fun i r hr=>hF _ _ _ _ ho.1 (r4 i r hr)⟩
section
variable {Φ:PH}{p q r x n k ku kd kp K:Nat}{z:Nat->Int}{u d:Int}
end
section
variable {Φ:PH}{p q r x n k ku kd kp K1 K2 K3:Nat}{z:Nat->Int}{u d:Int}
end
end Go.Proofs.YtbokonbbokhjlaaGreat.Sym
