/-
  No cell of these rows narrows 'for every input' (looked for: loops, veiled, ifaces, maps, wideKeys, modest, calm, conditions, laid).
  DERIVED. THE GIVEN ROWS OF THIS SEAT. 4 by the template 'for every input the law returns true; each argument reads behind the call as it read before'; 0 by the template 'total and deterministic' (their statements: YtlmanbjkkjfjgaaGreatTotals.lean).
  GIVEN WITH THE SEED: the statements are not yours to turn. If you find one false, say at which input.
  Laid BY PROGRAM, IN A SANDBOX (cutbox-rows.mjs): the forced cells as the released guide's own fill.sh prints them over the translation 34fe0095052dd6f6… (all of the seat's roots in one cut). By AI agents, Wed Nov 11 2026. No macro, syntax, notation, axiom, sorry.
-/
import Derived.Test.YtlmanbjkkjfjgaaGreatChecked
import GoSem.Claim
import GoSem.ClaimJoined
import GoSem.ClaimMapViews
import Derived.JoinedTies
import Derived.KernelRfl
namespace Go.Proofs.YtlmanbjkkjfjgaaGreat
/- THE CELL 'sum', in the pinned program and in every row, IS THE sha256 OF THE DUMP (.gsa) THAT YtlmanbjkkjfjgaaGreatProg.lean LOADS. Nothing in Lean hashes anything: it is a label: what it is worth is what the hold of that sum in a sandbox is worth. -/
noncomputable def Tryz.pinned : Pinned := { name := "ytlmanbjkkjfjgaagreat", sum := "34fe0095052dd6f62af6991ffea8f04d0811775d28c380c5f3244f90be9304e6", checked := Tryz.checked }
namespace Rows
def none {H : Type} : Left H := { results := [], args := [] }

/-- 'orrerylaw14.PredPlaces': WHATEVER THE INPUT: true; the input reads as it did. -/
def predPlacesSpec : ChangeSpec := { name := "predPlaces", fn := fun _ => fun
  | [d] => { results := [.lit (.bool true)], args := [d] }
  | _ => none }
def predPlacesRow : OpenClaim := { program := "ytlmanbjkkjfjgaagreat", sum := "34fe0095052dd6f62af6991ffea8f04d0811775d28c380c5f3244f90be9304e6", func := "orrery/orrerylaw14.PredPlaces", spec := "predPlaces", unfollowed := true, recurses := true, named := ["math/bits.overflowError"], apart := false }
def PredPlacesSaid : Prop := predPlacesRow.holds Tryz.pinned (OpenSpec.ofChange predPlacesSpec)

/-- ITS FALSE NEIGHBOUR: 'it returns false'. Refute it at one input. -/
def predPlacesWrong : ChangeSpec := { name := "predPlaces", fn := fun _ => fun
  | [d] => { results := [.lit (.bool false)], args := [d] }
  | _ => none }
def PredPlacesWrongFalsely : Prop := predPlacesRow.holds Tryz.pinned (OpenSpec.ofChange predPlacesWrong)

/-- 'orrerylaw14.PredTurned': WHATEVER THE INPUT: true; the input reads as it did. -/
def predTurnedSpec : ChangeSpec := { name := "predTurned", fn := fun _ => fun
  | [d1, d2, d3] => { results := [.lit (.bool true)], args := [d1, d2, d3] }
  | _ => none }
def predTurnedRow : OpenClaim := { program := "ytlmanbjkkjfjgaagreat", sum := "34fe0095052dd6f62af6991ffea8f04d0811775d28c380c5f3244f90be9304e6", func := "orrery/orrerylaw14.PredTurned", spec := "predTurned", unfollowed := true, recurses := true, named := ["math/bits.overflowError"], apart := false }
def PredTurnedSaid : Prop := predTurnedRow.holds Tryz.pinned (OpenSpec.ofChange predTurnedSpec)

/-- ITS FALSE NEIGHBOUR: 'it returns false'. Refute it at one input. -/
def predTurnedWrong : ChangeSpec := { name := "predTurned", fn := fun _ => fun
  | [d1, d2, d3] => { results := [.lit (.bool false)], args := [d1, d2, d3] }
  | _ => none }
def PredTurnedWrongFalsely : Prop := predTurnedRow.holds Tryz.pinned (OpenSpec.ofChange predTurnedWrong)

/-- 'orrerylaw14.PredCircles': WHATEVER THE INPUT: true; the input reads as it did. -/
def predCirclesSpec : ChangeSpec := { name := "predCircles", fn := fun _ => fun
  | [d1, d2, d3] => { results := [.lit (.bool true)], args := [d1, d2, d3] }
  | _ => none }
def predCirclesRow : OpenClaim := { program := "ytlmanbjkkjfjgaagreat", sum := "34fe0095052dd6f62af6991ffea8f04d0811775d28c380c5f3244f90be9304e6", func := "orrery/orrerylaw14.PredCircles", spec := "predCircles", unfollowed := true, recurses := true, named := ["math/bits.overflowError"], apart := false }
def PredCirclesSaid : Prop := predCirclesRow.holds Tryz.pinned (OpenSpec.ofChange predCirclesSpec)

/-- ITS FALSE NEIGHBOUR: 'it returns false'. Refute it at one input. -/
def predCirclesWrong : ChangeSpec := { name := "predCircles", fn := fun _ => fun
  | [d1, d2, d3] => { results := [.lit (.bool false)], args := [d1, d2, d3] }
  | _ => none }
def PredCirclesWrongFalsely : Prop := predCirclesRow.holds Tryz.pinned (OpenSpec.ofChange predCirclesWrong)

/-- 'orrerylaw14.PredLines': WHATEVER THE INPUT: true; the input reads as it did. -/
def predLinesSpec : ChangeSpec := { name := "predLines", fn := fun _ => fun
  | [d1, d2, d3] => { results := [.lit (.bool true)], args := [d1, d2, d3] }
  | _ => none }
def predLinesRow : OpenClaim := { program := "ytlmanbjkkjfjgaagreat", sum := "34fe0095052dd6f62af6991ffea8f04d0811775d28c380c5f3244f90be9304e6", func := "orrery/orrerylaw14.PredLines", spec := "predLines", unfollowed := true, recurses := true, named := ["math/bits.overflowError"], apart := false }
def PredLinesSaid : Prop := predLinesRow.holds Tryz.pinned (OpenSpec.ofChange predLinesSpec)

/-- ITS FALSE NEIGHBOUR: 'it returns false'. Refute it at one input. -/
def predLinesWrong : ChangeSpec := { name := "predLines", fn := fun _ => fun
  | [d1, d2, d3] => { results := [.lit (.bool false)], args := [d1, d2, d3] }
  | _ => none }
def PredLinesWrongFalsely : Prop := predLinesRow.holds Tryz.pinned (OpenSpec.ofChange predLinesWrong)

/- THE SECOND FORM. 'bulk': how many values and letters a reading holds, each counted each time it is reached (what is shared counts as often as it is met; a slice's spare places count too). A statement '..UptoSaid' is the law's where the arguments, and the package variables that the reading takes, are together of bulk at most 1048576: NARROWER than '..Said'. Prove '..Said' where nothing that the law and all that it calls make is longer than what came in: it says more and counts as full. Else prove '..UptoSaid'. A law counts once. -/
mutual
def uptoBulk {H : Type} : DataW H → Nat
  | .lit (.string bytes) => bytes.length + 1
  | .lit _ => 1
  | .nil => 1
  | .ptr d => uptoBulk d + 1
  | .slice elems spare => uptoBulkAll elems + uptoBulkAll spare + 1
  | .agg parts => uptoBulkAll parts + 1
  | .iface _ d => uptoBulk d + 1
  | .map entries => uptoBulkEntries entries + 1
  | .held _ => 1
def uptoBulkAll {H : Type} : List (DataW H) → Nat
  | [] => 0
  | d :: r => uptoBulk d + uptoBulkAll r
def uptoBulkEntries {H : Type} : List (Lit × DataW H) → Nat
  | [] => 0
  | x :: r => uptoBulkEntry x + uptoBulkEntries r
def uptoBulkEntry {H : Type} : Lit × DataW H → Nat
  | (.string bytes, d) => bytes.length + uptoBulk d + 1
  | (_, d) => uptoBulk d + 1
 end
def uptoSmall : (H : Type) → List (DataW H) → Bool := fun _ ds => decide (uptoBulkAll ds ≤ 1048576)
def OpenSpec.upto (s : _root_.Go.ChangeSpec) : _root_.Go.OpenSpec := { _root_.Go.OpenSpec.ofChange s with cond := some uptoSmall }

/-- 'orrerylaw14.PredPlaces', WHERE WHAT IT READS IS OF BULK AT MOST 1048576: true; the input reads as it did. -/
def predPlacesUptoRow : OpenClaim := { program := "ytlmanbjkkjfjgaagreat", sum := "34fe0095052dd6f62af6991ffea8f04d0811775d28c380c5f3244f90be9304e6", func := "orrery/orrerylaw14.PredPlaces", spec := "predPlaces", unfollowed := true, recurses := true, named := ["math/bits.overflowError"], apart := false, narrowed := true }
def PredPlacesUptoSaid : Prop := predPlacesUptoRow.holds Tryz.pinned (OpenSpec.upto predPlacesSpec)

/-- 'orrerylaw14.PredTurned', WHERE WHAT IT READS IS OF BULK AT MOST 1048576: true; the input reads as it did. -/
def predTurnedUptoRow : OpenClaim := { program := "ytlmanbjkkjfjgaagreat", sum := "34fe0095052dd6f62af6991ffea8f04d0811775d28c380c5f3244f90be9304e6", func := "orrery/orrerylaw14.PredTurned", spec := "predTurned", unfollowed := true, recurses := true, named := ["math/bits.overflowError"], apart := false, narrowed := true }
def PredTurnedUptoSaid : Prop := predTurnedUptoRow.holds Tryz.pinned (OpenSpec.upto predTurnedSpec)

/-- 'orrerylaw14.PredCircles', WHERE WHAT IT READS IS OF BULK AT MOST 1048576: true; the input reads as it did. -/
def predCirclesUptoRow : OpenClaim := { program := "ytlmanbjkkjfjgaagreat", sum := "34fe0095052dd6f62af6991ffea8f04d0811775d28c380c5f3244f90be9304e6", func := "orrery/orrerylaw14.PredCircles", spec := "predCircles", unfollowed := true, recurses := true, named := ["math/bits.overflowError"], apart := false, narrowed := true }
def PredCirclesUptoSaid : Prop := predCirclesUptoRow.holds Tryz.pinned (OpenSpec.upto predCirclesSpec)

/-- 'orrerylaw14.PredLines', WHERE WHAT IT READS IS OF BULK AT MOST 1048576: true; the input reads as it did. -/
def predLinesUptoRow : OpenClaim := { program := "ytlmanbjkkjfjgaagreat", sum := "34fe0095052dd6f62af6991ffea8f04d0811775d28c380c5f3244f90be9304e6", func := "orrery/orrerylaw14.PredLines", spec := "predLines", unfollowed := true, recurses := true, named := ["math/bits.overflowError"], apart := false, narrowed := true }
def PredLinesUptoSaid : Prop := predLinesUptoRow.holds Tryz.pinned (OpenSpec.upto predLinesSpec)

end Rows
end Go.Proofs.YtlmanbjkkjfjgaaGreat
