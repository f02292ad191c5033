/- Bounds of Horner's sums; their signs far out. -/
import Derived.Test.YteblgmjpociffaaPolZ
namespace Go.Proofs.Yteblgmjpociffaa.Sym
open Go.RowKit
end Go.Proofs.Yteblgmjpociffaa.Sym
