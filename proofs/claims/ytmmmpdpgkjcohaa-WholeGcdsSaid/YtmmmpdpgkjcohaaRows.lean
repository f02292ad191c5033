/-
  No cell of these rows narrows 'for every input' (looked for: loops, veiled, ifaces, maps, wideKeys, modest, calm, conditions, laid).
  DERIVED. THE GIVEN ROWS OF THIS SEAT. 8 by the template 'for every input the law returns true; each argument reads behind the call as it read before'; 0 by the template 'total and deterministic' (their statements: YtmmmpdpgkjcohaaTotals.lean).
  GIVEN WITH THE SEED: the statements are not yours to turn. If you find one false, say at which input.
  Laid BY PROGRAM, IN A SANDBOX (cutbox-rows.mjs): the forced cells as the released guide's own fill.sh prints them over the translation 62261793511ee8fe… (all of the seat's roots in one cut). By AI agents, Wed Nov 11 2026. No macro, syntax, notation, axiom, sorry.
-/
import Derived.Test.YtmmmpdpgkjcohaaChecked
import GoSem.Claim
import GoSem.ClaimJoined
import GoSem.ClaimMapViews
import Derived.JoinedTies
import Derived.KernelRfl
namespace Go.Proofs.Ytmmmpdpgkjcohaa
/- THE CELL 'sum', in the pinned program and in every row, IS THE sha256 OF THE DUMP (.gsa) THAT YtmmmpdpgkjcohaaProg.lean LOADS. Nothing in Lean hashes anything: it is a label: what it is worth is what the hold of that sum in a sandbox is worth. -/
noncomputable def Try.pinned : Pinned := { name := "ytmmmpdpgkjcohaa", sum := "62261793511ee8fe024463d51cb7ed23841d7a1ae4168c974b59a36c2047e9ad", checked := Try.checked }
namespace Rows
def none {H : Type} : Left H := { results := [], args := [] }

/-- 'orrerylaw02.WholeSums': WHATEVER THE INPUT: true; the input reads as it did. -/
def wholeSumsSpec : ChangeSpec := { name := "wholeSums", fn := fun _ => fun
  | [d1, d2] => { results := [.lit (.bool true)], args := [d1, d2] }
  | _ => none }
def wholeSumsRow : OpenClaim := { program := "ytmmmpdpgkjcohaa", sum := "62261793511ee8fe024463d51cb7ed23841d7a1ae4168c974b59a36c2047e9ad", func := "orrery/orrerylaw02.WholeSums", spec := "wholeSums", named := ["math/bits.overflowError"], apart := false }
def WholeSumsSaid : Prop := wholeSumsRow.holds Try.pinned (OpenSpec.ofChange wholeSumsSpec)

/-- ITS FALSE NEIGHBOUR: 'it returns false'. Refute it at one input. -/
def wholeSumsWrong : ChangeSpec := { name := "wholeSums", fn := fun _ => fun
  | [d1, d2] => { results := [.lit (.bool false)], args := [d1, d2] }
  | _ => none }
def WholeSumsWrongFalsely : Prop := wholeSumsRow.holds Try.pinned (OpenSpec.ofChange wholeSumsWrong)

/-- 'orrerylaw02.WholeAlls': WHATEVER THE INPUT: true; the input reads as it did. -/
def wholeAllsSpec : ChangeSpec := { name := "wholeAlls", fn := fun _ => fun
  | [d1, d2] => { results := [.lit (.bool true)], args := [d1, d2] }
  | _ => none }
def wholeAllsRow : OpenClaim := { program := "ytmmmpdpgkjcohaa", sum := "62261793511ee8fe024463d51cb7ed23841d7a1ae4168c974b59a36c2047e9ad", func := "orrery/orrerylaw02.WholeAlls", spec := "wholeAlls", named := ["math/bits.overflowError"], apart := false }
def WholeAllsSaid : Prop := wholeAllsRow.holds Try.pinned (OpenSpec.ofChange wholeAllsSpec)

/-- ITS FALSE NEIGHBOUR: 'it returns false'. Refute it at one input. -/
def wholeAllsWrong : ChangeSpec := { name := "wholeAlls", fn := fun _ => fun
  | [d1, d2] => { results := [.lit (.bool false)], args := [d1, d2] }
  | _ => none }
def WholeAllsWrongFalsely : Prop := wholeAllsRow.holds Try.pinned (OpenSpec.ofChange wholeAllsWrong)

/-- 'orrerylaw02.WholeSmalls': WHATEVER THE INPUT: true; the input reads as it did. -/
def wholeSmallsSpec : ChangeSpec := { name := "wholeSmalls", fn := fun _ => fun
  | [d] => { results := [.lit (.bool true)], args := [d] }
  | _ => none }
def wholeSmallsRow : OpenClaim := { program := "ytmmmpdpgkjcohaa", sum := "62261793511ee8fe024463d51cb7ed23841d7a1ae4168c974b59a36c2047e9ad", func := "orrery/orrerylaw02.WholeSmalls", spec := "wholeSmalls", named := ["math/bits.overflowError"], apart := false }
def WholeSmallsSaid : Prop := wholeSmallsRow.holds Try.pinned (OpenSpec.ofChange wholeSmallsSpec)

/-- ITS FALSE NEIGHBOUR: 'it returns false'. Refute it at one input. -/
def wholeSmallsWrong : ChangeSpec := { name := "wholeSmalls", fn := fun _ => fun
  | [d] => { results := [.lit (.bool false)], args := [d] }
  | _ => none }
def WholeSmallsWrongFalsely : Prop := wholeSmallsRow.holds Try.pinned (OpenSpec.ofChange wholeSmallsWrong)

/-- 'orrerylaw02.WholePows': WHATEVER THE INPUT: true; the input reads as it did. -/
def wholePowsSpec : ChangeSpec := { name := "wholePows", fn := fun _ => fun
  | [d1, d2] => { results := [.lit (.bool true)], args := [d1, d2] }
  | _ => none }
def wholePowsRow : OpenClaim := { program := "ytmmmpdpgkjcohaa", sum := "62261793511ee8fe024463d51cb7ed23841d7a1ae4168c974b59a36c2047e9ad", func := "orrery/orrerylaw02.WholePows", spec := "wholePows", named := ["math/bits.overflowError"], apart := false }
def WholePowsSaid : Prop := wholePowsRow.holds Try.pinned (OpenSpec.ofChange wholePowsSpec)

/-- ITS FALSE NEIGHBOUR: 'it returns false'. Refute it at one input. -/
def wholePowsWrong : ChangeSpec := { name := "wholePows", fn := fun _ => fun
  | [d1, d2] => { results := [.lit (.bool false)], args := [d1, d2] }
  | _ => none }
def WholePowsWrongFalsely : Prop := wholePowsRow.holds Try.pinned (OpenSpec.ofChange wholePowsWrong)

/-- 'orrerylaw02.WholeGcds': WHATEVER THE INPUT: true; the input reads as it did. -/
def wholeGcdsSpec : ChangeSpec := { name := "wholeGcds", fn := fun _ => fun
  | [d1, d2] => { results := [.lit (.bool true)], args := [d1, d2] }
  | _ => none }
def wholeGcdsRow : OpenClaim := { program := "ytmmmpdpgkjcohaa", sum := "62261793511ee8fe024463d51cb7ed23841d7a1ae4168c974b59a36c2047e9ad", func := "orrery/orrerylaw02.WholeGcds", spec := "wholeGcds", named := ["math/bits.overflowError"], apart := false }
def WholeGcdsSaid : Prop := wholeGcdsRow.holds Try.pinned (OpenSpec.ofChange wholeGcdsSpec)

/-- ITS FALSE NEIGHBOUR: 'it returns false'. Refute it at one input. -/
def wholeGcdsWrong : ChangeSpec := { name := "wholeGcds", fn := fun _ => fun
  | [d1, d2] => { results := [.lit (.bool false)], args := [d1, d2] }
  | _ => none }
def WholeGcdsWrongFalsely : Prop := wholeGcdsRow.holds Try.pinned (OpenSpec.ofChange wholeGcdsWrong)

/-- 'orrerylaw02.WholeLaws': WHATEVER THE INPUT: true; the input reads as it did. -/
def wholeLawsSpec : ChangeSpec := { name := "wholeLaws", fn := fun _ => fun
  | [d1, d2, d3] => { results := [.lit (.bool true)], args := [d1, d2, d3] }
  | _ => none }
def wholeLawsRow : OpenClaim := { program := "ytmmmpdpgkjcohaa", sum := "62261793511ee8fe024463d51cb7ed23841d7a1ae4168c974b59a36c2047e9ad", func := "orrery/orrerylaw02.WholeLaws", spec := "wholeLaws", named := ["math/bits.overflowError"], apart := false }
def WholeLawsSaid : Prop := wholeLawsRow.holds Try.pinned (OpenSpec.ofChange wholeLawsSpec)

/-- ITS FALSE NEIGHBOUR: 'it returns false'. Refute it at one input. -/
def wholeLawsWrong : ChangeSpec := { name := "wholeLaws", fn := fun _ => fun
  | [d1, d2, d3] => { results := [.lit (.bool false)], args := [d1, d2, d3] }
  | _ => none }
def WholeLawsWrongFalsely : Prop := wholeLawsRow.holds Try.pinned (OpenSpec.ofChange wholeLawsWrong)

/-- 'orrerylaw02.WholeShapes': WHATEVER THE INPUT: true; the input reads as it did. -/
def wholeShapesSpec : ChangeSpec := { name := "wholeShapes", fn := fun _ => fun
  | [d1, d2, d3] => { results := [.lit (.bool true)], args := [d1, d2, d3] }
  | _ => none }
def wholeShapesRow : OpenClaim := { program := "ytmmmpdpgkjcohaa", sum := "62261793511ee8fe024463d51cb7ed23841d7a1ae4168c974b59a36c2047e9ad", func := "orrery/orrerylaw02.WholeShapes", spec := "wholeShapes", named := ["math/bits.overflowError"], apart := false }
def WholeShapesSaid : Prop := wholeShapesRow.holds Try.pinned (OpenSpec.ofChange wholeShapesSpec)

/-- ITS FALSE NEIGHBOUR: 'it returns false'. Refute it at one input. -/
def wholeShapesWrong : ChangeSpec := { name := "wholeShapes", fn := fun _ => fun
  | [d1, d2, d3] => { results := [.lit (.bool false)], args := [d1, d2, d3] }
  | _ => none }
def WholeShapesWrongFalsely : Prop := wholeShapesRow.holds Try.pinned (OpenSpec.ofChange wholeShapesWrong)

/-- 'orrerylaw02.WholeShared': WHATEVER THE INPUT: true; the input reads as it did. -/
def wholeSharedSpec : ChangeSpec := { name := "wholeShared", fn := fun _ => fun
  | [d1, d2, d3, d4] => { results := [.lit (.bool true)], args := [d1, d2, d3, d4] }
  | _ => none }
def wholeSharedRow : OpenClaim := { program := "ytmmmpdpgkjcohaa", sum := "62261793511ee8fe024463d51cb7ed23841d7a1ae4168c974b59a36c2047e9ad", func := "orrery/orrerylaw02.WholeShared", spec := "wholeShared", named := ["math/bits.overflowError"], apart := false }
def WholeSharedSaid : Prop := wholeSharedRow.holds Try.pinned (OpenSpec.ofChange wholeSharedSpec)

/-- ITS FALSE NEIGHBOUR: 'it returns false'. Refute it at one input. -/
def wholeSharedWrong : ChangeSpec := { name := "wholeShared", fn := fun _ => fun
  | [d1, d2, d3, d4] => { results := [.lit (.bool false)], args := [d1, d2, d3, d4] }
  | _ => none }
def WholeSharedWrongFalsely : Prop := wholeSharedRow.holds Try.pinned (OpenSpec.ofChange wholeSharedWrong)

/- THE SECOND FORM. 'bulk': how many values and letters a reading holds, each counted each time it is reached (what is shared counts as often as it is met; a slice's spare places count too). A statement '..UptoSaid' is the law's where the arguments, and the package variables that the reading takes, are together of bulk at most 1048576: NARROWER than '..Said'. Prove '..Said' where nothing that the law and all that it calls make is longer than what came in: it says more and counts as full. Else prove '..UptoSaid'. A law counts once. -/
mutual
def uptoBulk {H : Type} : DataW H → Nat
  | .lit (.string bytes) => bytes.length + 1
  | .lit _ => 1
  | .nil => 1
  | .ptr d => uptoBulk d + 1
  | .slice elems spare => uptoBulkAll elems + uptoBulkAll spare + 1
  | .agg parts => uptoBulkAll parts + 1
  | .iface _ d => uptoBulk d + 1
  | .map entries => uptoBulkEntries entries + 1
  | .held _ => 1
def uptoBulkAll {H : Type} : List (DataW H) → Nat
  | [] => 0
  | d :: r => uptoBulk d + uptoBulkAll r
def uptoBulkEntries {H : Type} : List (Lit × DataW H) → Nat
  | [] => 0
  | x :: r => uptoBulkEntry x + uptoBulkEntries r
def uptoBulkEntry {H : Type} : Lit × DataW H → Nat
  | (.string bytes, d) => bytes.length + uptoBulk d + 1
  | (_, d) => uptoBulk d + 1
 end
def uptoSmall : (H : Type) → List (DataW H) → Bool := fun _ ds => decide (uptoBulkAll ds ≤ 1048576)
def OpenSpec.upto (s : _root_.Go.ChangeSpec) : _root_.Go.OpenSpec := { _root_.Go.OpenSpec.ofChange s with cond := some uptoSmall }

/-- 'orrerylaw02.WholeSums', WHERE WHAT IT READS IS OF BULK AT MOST 1048576: true; the input reads as it did. -/
def wholeSumsUptoRow : OpenClaim := { program := "ytmmmpdpgkjcohaa", sum := "62261793511ee8fe024463d51cb7ed23841d7a1ae4168c974b59a36c2047e9ad", func := "orrery/orrerylaw02.WholeSums", spec := "wholeSums", named := ["math/bits.overflowError"], apart := false, narrowed := true }
def WholeSumsUptoSaid : Prop := wholeSumsUptoRow.holds Try.pinned (OpenSpec.upto wholeSumsSpec)

/-- 'orrerylaw02.WholeAlls', WHERE WHAT IT READS IS OF BULK AT MOST 1048576: true; the input reads as it did. -/
def wholeAllsUptoRow : OpenClaim := { program := "ytmmmpdpgkjcohaa", sum := "62261793511ee8fe024463d51cb7ed23841d7a1ae4168c974b59a36c2047e9ad", func := "orrery/orrerylaw02.WholeAlls", spec := "wholeAlls", named := ["math/bits.overflowError"], apart := false, narrowed := true }
def WholeAllsUptoSaid : Prop := wholeAllsUptoRow.holds Try.pinned (OpenSpec.upto wholeAllsSpec)

/-- 'orrerylaw02.WholeSmalls', WHERE WHAT IT READS IS OF BULK AT MOST 1048576: true; the input reads as it did. -/
def wholeSmallsUptoRow : OpenClaim := { program := "ytmmmpdpgkjcohaa", sum := "62261793511ee8fe024463d51cb7ed23841d7a1ae4168c974b59a36c2047e9ad", func := "orrery/orrerylaw02.WholeSmalls", spec := "wholeSmalls", named := ["math/bits.overflowError"], apart := false, narrowed := true }
def WholeSmallsUptoSaid : Prop := wholeSmallsUptoRow.holds Try.pinned (OpenSpec.upto wholeSmallsSpec)

/-- 'orrerylaw02.WholePows', WHERE WHAT IT READS IS OF BULK AT MOST 1048576: true; the input reads as it did. -/
def wholePowsUptoRow : OpenClaim := { program := "ytmmmpdpgkjcohaa", sum := "62261793511ee8fe024463d51cb7ed23841d7a1ae4168c974b59a36c2047e9ad", func := "orrery/orrerylaw02.WholePows", spec := "wholePows", named := ["math/bits.overflowError"], apart := false, narrowed := true }
def WholePowsUptoSaid : Prop := wholePowsUptoRow.holds Try.pinned (OpenSpec.upto wholePowsSpec)

/-- 'orrerylaw02.WholeGcds', WHERE WHAT IT READS IS OF BULK AT MOST 1048576: true; the input reads as it did. -/
def wholeGcdsUptoRow : OpenClaim := { program := "ytmmmpdpgkjcohaa", sum := "62261793511ee8fe024463d51cb7ed23841d7a1ae4168c974b59a36c2047e9ad", func := "orrery/orrerylaw02.WholeGcds", spec := "wholeGcds", named := ["math/bits.overflowError"], apart := false, narrowed := true }
def WholeGcdsUptoSaid : Prop := wholeGcdsUptoRow.holds Try.pinned (OpenSpec.upto wholeGcdsSpec)

/-- 'orrerylaw02.WholeLaws', WHERE WHAT IT READS IS OF BULK AT MOST 1048576: true; the input reads as it did. -/
def wholeLawsUptoRow : OpenClaim := { program := "ytmmmpdpgkjcohaa", sum := "62261793511ee8fe024463d51cb7ed23841d7a1ae4168c974b59a36c2047e9ad", func := "orrery/orrerylaw02.WholeLaws", spec := "wholeLaws", named := ["math/bits.overflowError"], apart := false, narrowed := true }
def WholeLawsUptoSaid : Prop := wholeLawsUptoRow.holds Try.pinned (OpenSpec.upto wholeLawsSpec)

/-- 'orrerylaw02.WholeShapes', WHERE WHAT IT READS IS OF BULK AT MOST 1048576: true; the input reads as it did. -/
def wholeShapesUptoRow : OpenClaim := { program := "ytmmmpdpgkjcohaa", sum := "62261793511ee8fe024463d51cb7ed23841d7a1ae4168c974b59a36c2047e9ad", func := "orrery/orrerylaw02.WholeShapes", spec := "wholeShapes", named := ["math/bits.overflowError"], apart := false, narrowed := true }
def WholeShapesUptoSaid : Prop := wholeShapesUptoRow.holds Try.pinned (OpenSpec.upto wholeShapesSpec)

/-- 'orrerylaw02.WholeShared', WHERE WHAT IT READS IS OF BULK AT MOST 1048576: true; the input reads as it did. -/
def wholeSharedUptoRow : OpenClaim := { program := "ytmmmpdpgkjcohaa", sum := "62261793511ee8fe024463d51cb7ed23841d7a1ae4168c974b59a36c2047e9ad", func := "orrery/orrerylaw02.WholeShared", spec := "wholeShared", named := ["math/bits.overflowError"], apart := false, narrowed := true }
def WholeSharedUptoSaid : Prop := wholeSharedUptoRow.holds Try.pinned (OpenSpec.upto wholeSharedSpec)

end Rows
end Go.Proofs.Ytmmmpdpgkjcohaa
