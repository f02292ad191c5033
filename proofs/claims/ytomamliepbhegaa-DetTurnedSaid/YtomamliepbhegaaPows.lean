/- Package whole: Pow. -/
import Derived.Test.YtomamliepbhegaaBx
import Derived.Deep.DeepCutAuto
namespace Go.Proofs.Ytomamliepbhegaa
open Go.RowKit
theorem dw.mono {w:World}{B B':Nat}{v:Value}{z:Int} (h:dw w B v z) (hB:B'<=B):dw w B' v z:=by
 obtain ⟨p,cap,h1,h2⟩:=h
 exact ⟨p,cap,h1,h2.mono hB⟩
theorem dw.lt {w:World}{B:Nat}{u v:Value}{z:Int} (h:dw w B (.agg #[u,v]) z):∀g,v.ownBlock=some g->B<=g∧g<w.heap.size:=by
 obtain ⟨p,cap,h1,h2⟩:=h
 simp only [Value.agg.injEq,Array.mk.injEq,List.cons.injEq,and_true] at h1
 rw [h1.2]
 exact h2.lt
theorem aB.bd {w:World}{v:Value}{z:Int}{k:Nat} (h:aB w v z k):Bd z.natAbs k:=by
 obtain ⟨b,s,X,rfl,h2,rfl⟩:=h
 rw [Lf]
 exact h2.bd
end Go.Proofs.Ytomamliepbhegaa
