/- Contracts of chapter 4 and of the reference's rationals as calls of the symbolic walk. -/
import Derived.Test.YtncaiomdcpppeaaGreatRefV
import Derived.Test.YtncaiomdcpppeaaGreatRowRat
namespace Go.Proofs.YtncaiomdcpppeaaGreat.Sym
open Go.RowKit
section
variable {Φ : Nat → World → Value → Prop}
end
end Go.Proofs.YtncaiomdcpppeaaGreat.Sym
