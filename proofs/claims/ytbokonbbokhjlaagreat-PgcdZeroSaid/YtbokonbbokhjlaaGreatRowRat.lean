/- A rational that came in; the variables that a row of layer 4 lists. -/
import Derived.Test.YtbokonbbokhjlaaGreatRowKit
import Derived.Test.YtbokonbbokhjlaaGreatRefV
import Derived.Lib.SmallJoins
import Derived.Lay
import Derived.MakeChecks
import Derived.Stop.Joined
import Derived.SevenTiedAt
namespace Go.Proofs.YtbokonbbokhjlaaGreat
open Go.ChangeShapes Go.WideShapes Go.ChangeAt Go.RowKit
section
variable {H:Type}{enc:TypeId×Value->H}
end
end Go.Proofs.YtbokonbbokhjlaaGreat
