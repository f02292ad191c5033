/- Bounds of Horner's sums; their signs far out. -/
import Derived.Test.YtomamliepbhegaaPolZ
namespace Go.Proofs.Ytomamliepbhegaa.Sym
open Go.RowKit
end Go.Proofs.Ytomamliepbhegaa.Sym
