/- Contracts of chapter 4 and of the reference's rationals as calls of the symbolic walk. -/
import Derived.Test.YtigkehblnlghkaaGreatRefV
import Derived.Test.YtigkehblnlghkaaGreatRowRat
namespace Go.Proofs.YtigkehblnlghkaaGreat.Sym
open Go.RowKit
section
variable {Φ : Nat → World → Value → Prop}
end
end Go.Proofs.YtigkehblnlghkaaGreat.Sym
