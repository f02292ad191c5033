/- Cut; a polynomial that came in. -/
import Derived.Test.YthmcngjhkmpneaaGreatPolX
import Derived.Test.YthmcngjhkmpneaaGreatRatL
import Derived.Deep.Slices
namespace Go.Proofs.YthmcngjhkmpneaaGreat.Sym
open Go.RowKit Go.ChangeShapes Go.WideShapes Go.ChangeAt
section
variable {Φ:PH}{p x y n n0:Nat}{z:Nat->Int}
end
theorem ue {Φ:PH}{p n:Nat}{a:Nat->Bool}{xs:Nat->List Nat}{w:World}{v:Value} (h:Rw 2 (fun i w v=>aG w v (a i) (xs i)) n w v) (hp:Φ p=fun w v=>Rw 2 (fun i w v=>aG w v (a i) (xs i)) n w v:=by rfl):(Arg.fact p).ok Φ (fun _=>False) w v:=
 Rw.arg (F:=fun i w v=>aG w v (a i) (xs i)) (fun _ _ _ _ g h=>aG.kp h g) h hp (fun _ h=>h.elim)
end Go.Proofs.YthmcngjhkmpneaaGreat.Sym
