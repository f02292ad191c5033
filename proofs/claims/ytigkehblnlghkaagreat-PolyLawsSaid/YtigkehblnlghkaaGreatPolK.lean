/- Rows of values of one cell each, made at once, in memory that is never written to again: as an operation of the symbolic walk. -/
import Derived.Test.YtigkehblnlghkaaGreatPolX
namespace Go.Proofs.YtigkehblnlghkaaGreat.Sym
open Go.RowKit
section
variable {P : Program} {Φ : Nat → World → Value → Prop} {x j n : Nat} {F : Nat → World → Value → Prop}
end
end Go.Proofs.YtigkehblnlghkaaGreat.Sym
