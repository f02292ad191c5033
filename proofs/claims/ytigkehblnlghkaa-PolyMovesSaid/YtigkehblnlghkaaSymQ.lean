/- Contracts of chapter 4 and of the reference's rationals as calls of the symbolic walk. -/
import Derived.Test.YtigkehblnlghkaaRefV
import Derived.Test.YtigkehblnlghkaaRowRat
namespace Go.Proofs.Ytigkehblnlghkaa.Sym
open Go.RowKit
section
variable {Φ : Nat → World → Value → Prop}
end
end Go.Proofs.Ytigkehblnlghkaa.Sym
