/- Contracts of chapter 4 and of the reference's rationals as calls of the symbolic walk. -/
import Derived.Test.YtbokonbbokhjlaaGreatRefV
import Derived.Test.YtbokonbbokhjlaaGreatRowRat
namespace Go.Proofs.YtbokonbbokhjlaaGreat.Sym
open Go.RowKit
section
variable {Φ:PH}
end
end Go.Proofs.YtbokonbbokhjlaaGreat.Sym
