/- poly.Move. -/
import Derived.Test.YteblgmjpociffaaGreatPolV
namespace Go.Proofs.YteblgmjpociffaaGreat.Sym
open Go.RowKit
theorem viaN {P : Program} {Φ Ψ : Nat -> World -> Value -> Prop} {f : FuncId} {ar ar' : List Arg} {outs outs' : List Out} {md md' : Mode} (h : CallNOk Ψ P ⟨f, ar', outs', md'⟩) (ha : argMap Φ Ψ ar ar') (ho : outMap Ψ Φ outs' outs) : CallNOk Φ P ⟨f, ar, outs, md⟩ :=
 fun X w vs hX h' => (h X w vs hX (ha.ok h')).mono fun _ _w' ⟨hg, u, he, h2, h3⟩ => ⟨hg, u, he, ho.ok h2, h3⟩
theorem CallNOk.call {P : Program} {Φ : Nat -> World -> Value -> Prop} {f : FuncId} {ar : List Arg} {outs : List Out} {md : Mode} (h : CallNOk Φ P ⟨f, ar, outs, md⟩) : SiteOk Φ P ⟨f, ar, outs, false⟩ :=
 fun X w vs hX h' => (h X w vs hX h').mono fun _ _w' ⟨hg, u, he, h2, _⟩ => ⟨hg, [u], he, h2⟩
theorem ArrO.off {sz n : Nat} {e : TypeId} {F : Nat -> World -> Value -> Prop} {w w1 : World} {v : Value} {X : Nat -> Prop} (hF : ∀ i w w1 v, Kp w w1 -> F i w v -> F i w1 v) (h : ArrO sz e F n w v) (ho : Off X w w1) (hb : ∀ g, blk v = some g -> ¬ X g) : ArrO sz e F n w1 v := by
 obtain ⟨rows, r1, r2, r3, r4⟩ := h
 refine ⟨rows, r1, r2, r3.keep fun g hg => ho.2 g (r3.lt g hg) (hb g (by rw [blk_own]; exact hg)), fun i r hr => hF _ _ _ _ ho.1 (r4 i r hr)⟩
section
variable {Φ : Nat -> World -> Value -> Prop} {p q r x n k ku kd kp K : Nat} {z : Nat -> Int} {u d : Int}
end
section
variable {Φ : Nat -> World -> Value -> Prop} {p q r x n k ku kd kp K1 K2 K3 : Nat} {z : Nat -> Int} {u d : Int}
end
end Go.Proofs.YteblgmjpociffaaGreat.Sym
