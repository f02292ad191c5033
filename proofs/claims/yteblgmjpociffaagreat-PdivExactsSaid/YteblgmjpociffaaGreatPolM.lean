/- Bounds of Horner's sums; their signs far out. -/
import Derived.Test.YteblgmjpociffaaGreatPolZ
namespace Go.Proofs.YteblgmjpociffaaGreat.Sym
open Go.RowKit
end Go.Proofs.YteblgmjpociffaaGreat.Sym
