/-
  No cell of these rows narrows 'for every input' (looked for: loops, veiled, ifaces, maps, wideKeys, modest, calm, conditions, laid).
  DERIVED. THE GIVEN ROWS OF THIS SEAT. 8 by the template 'for every input the law returns true; each argument reads behind the call as it read before'; 0 by the template 'total and deterministic' (their statements: YteblgmjpociffaaGreatTotals.lean).
  GIVEN WITH THE SEED: the statements are not yours to turn. If you find one false, say at which input.
  Laid BY PROGRAM, IN A SANDBOX (cutbox-rows.mjs): the forced cells as the released guide's own fill.sh prints them over the translation b39fd865b6fa23a4… (all of the seat's roots in one cut). By AI agents, Wed Nov 11 2026. No macro, syntax, notation, axiom, sorry.
-/
import Derived.Test.YteblgmjpociffaaGreatChecked
import GoSem.Claim
import GoSem.ClaimJoined
import GoSem.ClaimMapViews
import Derived.JoinedTies
import Derived.KernelRfl
namespace Go.Proofs.YteblgmjpociffaaGreat
/- THE CELL 'sum', in the pinned program and in every row, IS THE sha256 OF THE DUMP (.gsa) THAT YteblgmjpociffaaGreatProg.lean LOADS. Nothing in Lean hashes anything: it is a label: what it is worth is what the hold of that sum in a sandbox is worth. -/
noncomputable def Tryz.pinned : Pinned := { name := "yteblgmjpociffaagreat", sum := "b39fd865b6fa23a40c44fedb4cdb65fbea27b41d473c207ab7927901dcba1dde", checked := Tryz.checked }
namespace Rows
def none {H : Type} : Left H := { results := [], args := [] }

/-- 'orrerylaw05.PolyLaws': WHATEVER THE INPUT: true; the input reads as it did. -/
def polyLawsSpec : ChangeSpec := { name := "polyLaws", fn := fun _ => fun
  | [d1, d2, d3] => { results := [.lit (.bool true)], args := [d1, d2, d3] }
  | _ => none }
def polyLawsRow : OpenClaim := { program := "yteblgmjpociffaagreat", sum := "b39fd865b6fa23a40c44fedb4cdb65fbea27b41d473c207ab7927901dcba1dde", func := "orrery/orrerylaw05.PolyLaws", spec := "polyLaws", unfollowed := true, recurses := true, named := ["math/bits.overflowError"], apart := false }
def PolyLawsSaid : Prop := polyLawsRow.holds Tryz.pinned (OpenSpec.ofChange polyLawsSpec)

/-- ITS FALSE NEIGHBOUR: 'it returns false'. Refute it at one input. -/
def polyLawsWrong : ChangeSpec := { name := "polyLaws", fn := fun _ => fun
  | [d1, d2, d3] => { results := [.lit (.bool false)], args := [d1, d2, d3] }
  | _ => none }
def PolyLawsWrongFalsely : Prop := polyLawsRow.holds Tryz.pinned (OpenSpec.ofChange polyLawsWrong)

/-- 'orrerylaw06.PdivContents': WHATEVER THE INPUT: true; the input reads as it did. -/
def pdivContentsSpec : ChangeSpec := { name := "pdivContents", fn := fun _ => fun
  | [d1, d2, d3] => { results := [.lit (.bool true)], args := [d1, d2, d3] }
  | _ => none }
def pdivContentsRow : OpenClaim := { program := "yteblgmjpociffaagreat", sum := "b39fd865b6fa23a40c44fedb4cdb65fbea27b41d473c207ab7927901dcba1dde", func := "orrery/orrerylaw06.PdivContents", spec := "pdivContents", unfollowed := true, recurses := true, named := ["math/bits.overflowError"], apart := false }
def PdivContentsSaid : Prop := pdivContentsRow.holds Tryz.pinned (OpenSpec.ofChange pdivContentsSpec)

/-- ITS FALSE NEIGHBOUR: 'it returns false'. Refute it at one input. -/
def pdivContentsWrong : ChangeSpec := { name := "pdivContents", fn := fun _ => fun
  | [d1, d2, d3] => { results := [.lit (.bool false)], args := [d1, d2, d3] }
  | _ => none }
def PdivContentsWrongFalsely : Prop := pdivContentsRow.holds Tryz.pinned (OpenSpec.ofChange pdivContentsWrong)

/-- 'orrerylaw06.PdivPseudos': WHATEVER THE INPUT: true; the input reads as it did. -/
def pdivPseudosSpec : ChangeSpec := { name := "pdivPseudos", fn := fun _ => fun
  | [d1, d2] => { results := [.lit (.bool true)], args := [d1, d2] }
  | _ => none }
def pdivPseudosRow : OpenClaim := { program := "yteblgmjpociffaagreat", sum := "b39fd865b6fa23a40c44fedb4cdb65fbea27b41d473c207ab7927901dcba1dde", func := "orrery/orrerylaw06.PdivPseudos", spec := "pdivPseudos", unfollowed := true, recurses := true, named := ["math/bits.overflowError"], apart := false }
def PdivPseudosSaid : Prop := pdivPseudosRow.holds Tryz.pinned (OpenSpec.ofChange pdivPseudosSpec)

/-- ITS FALSE NEIGHBOUR: 'it returns false'. Refute it at one input. -/
def pdivPseudosWrong : ChangeSpec := { name := "pdivPseudos", fn := fun _ => fun
  | [d1, d2] => { results := [.lit (.bool false)], args := [d1, d2] }
  | _ => none }
def PdivPseudosWrongFalsely : Prop := pdivPseudosRow.holds Tryz.pinned (OpenSpec.ofChange pdivPseudosWrong)

/-- 'orrerylaw06.PdivExacts': WHATEVER THE INPUT: true; the input reads as it did. -/
def pdivExactsSpec : ChangeSpec := { name := "pdivExacts", fn := fun _ => fun
  | [d1, d2, d3] => { results := [.lit (.bool true)], args := [d1, d2, d3] }
  | _ => none }
def pdivExactsRow : OpenClaim := { program := "yteblgmjpociffaagreat", sum := "b39fd865b6fa23a40c44fedb4cdb65fbea27b41d473c207ab7927901dcba1dde", func := "orrery/orrerylaw06.PdivExacts", spec := "pdivExacts", unfollowed := true, recurses := true, named := ["math/bits.overflowError"], apart := false }
def PdivExactsSaid : Prop := pdivExactsRow.holds Tryz.pinned (OpenSpec.ofChange pdivExactsSpec)

/-- ITS FALSE NEIGHBOUR: 'it returns false'. Refute it at one input. -/
def pdivExactsWrong : ChangeSpec := { name := "pdivExacts", fn := fun _ => fun
  | [d1, d2, d3] => { results := [.lit (.bool false)], args := [d1, d2, d3] }
  | _ => none }
def PdivExactsWrongFalsely : Prop := pdivExactsRow.holds Tryz.pinned (OpenSpec.ofChange pdivExactsWrong)

/-- 'orrerylaw06.PdivRests': WHATEVER THE INPUT: true; the input reads as it did. -/
def pdivRestsSpec : ChangeSpec := { name := "pdivRests", fn := fun _ => fun
  | [d1, d2] => { results := [.lit (.bool true)], args := [d1, d2] }
  | _ => none }
def pdivRestsRow : OpenClaim := { program := "yteblgmjpociffaagreat", sum := "b39fd865b6fa23a40c44fedb4cdb65fbea27b41d473c207ab7927901dcba1dde", func := "orrery/orrerylaw06.PdivRests", spec := "pdivRests", unfollowed := true, recurses := true, named := ["math/bits.overflowError"], apart := false }
def PdivRestsSaid : Prop := pdivRestsRow.holds Tryz.pinned (OpenSpec.ofChange pdivRestsSpec)

/-- ITS FALSE NEIGHBOUR: 'it returns false'. Refute it at one input. -/
def pdivRestsWrong : ChangeSpec := { name := "pdivRests", fn := fun _ => fun
  | [d1, d2] => { results := [.lit (.bool false)], args := [d1, d2] }
  | _ => none }
def PdivRestsWrongFalsely : Prop := pdivRestsRow.holds Tryz.pinned (OpenSpec.ofChange pdivRestsWrong)

/-- 'orrerylaw06.PdivBack': WHATEVER THE INPUT: true; the input reads as it did. -/
def pdivBackSpec : ChangeSpec := { name := "pdivBack", fn := fun _ => fun
  | [d1, d2] => { results := [.lit (.bool true)], args := [d1, d2] }
  | _ => none }
def pdivBackRow : OpenClaim := { program := "yteblgmjpociffaagreat", sum := "b39fd865b6fa23a40c44fedb4cdb65fbea27b41d473c207ab7927901dcba1dde", func := "orrery/orrerylaw06.PdivBack", spec := "pdivBack", unfollowed := true, recurses := true, named := ["math/bits.overflowError"], apart := false }
def PdivBackSaid : Prop := pdivBackRow.holds Tryz.pinned (OpenSpec.ofChange pdivBackSpec)

/-- ITS FALSE NEIGHBOUR: 'it returns false'. Refute it at one input. -/
def pdivBackWrong : ChangeSpec := { name := "pdivBack", fn := fun _ => fun
  | [d1, d2] => { results := [.lit (.bool false)], args := [d1, d2] }
  | _ => none }
def PdivBackWrongFalsely : Prop := pdivBackRow.holds Tryz.pinned (OpenSpec.ofChange pdivBackWrong)

/-- 'orrerylaw06.PdivParts': WHATEVER THE INPUT: true; the input reads as it did. -/
def pdivPartsSpec : ChangeSpec := { name := "pdivParts", fn := fun _ => fun
  | [d1, d2] => { results := [.lit (.bool true)], args := [d1, d2] }
  | _ => none }
def pdivPartsRow : OpenClaim := { program := "yteblgmjpociffaagreat", sum := "b39fd865b6fa23a40c44fedb4cdb65fbea27b41d473c207ab7927901dcba1dde", func := "orrery/orrerylaw06.PdivParts", spec := "pdivParts", unfollowed := true, recurses := true, named := ["math/bits.overflowError"], apart := false }
def PdivPartsSaid : Prop := pdivPartsRow.holds Tryz.pinned (OpenSpec.ofChange pdivPartsSpec)

/-- ITS FALSE NEIGHBOUR: 'it returns false'. Refute it at one input. -/
def pdivPartsWrong : ChangeSpec := { name := "pdivParts", fn := fun _ => fun
  | [d1, d2] => { results := [.lit (.bool false)], args := [d1, d2] }
  | _ => none }
def PdivPartsWrongFalsely : Prop := pdivPartsRow.holds Tryz.pinned (OpenSpec.ofChange pdivPartsWrong)

/-- 'orrerylaw06.PdivEuclid': WHATEVER THE INPUT: true; the input reads as it did. -/
def pdivEuclidSpec : ChangeSpec := { name := "pdivEuclid", fn := fun _ => fun
  | [d1, d2, d3] => { results := [.lit (.bool true)], args := [d1, d2, d3] }
  | _ => none }
def pdivEuclidRow : OpenClaim := { program := "yteblgmjpociffaagreat", sum := "b39fd865b6fa23a40c44fedb4cdb65fbea27b41d473c207ab7927901dcba1dde", func := "orrery/orrerylaw06.PdivEuclid", spec := "pdivEuclid", unfollowed := true, recurses := true, named := ["math/bits.overflowError"], apart := false }
def PdivEuclidSaid : Prop := pdivEuclidRow.holds Tryz.pinned (OpenSpec.ofChange pdivEuclidSpec)

/-- ITS FALSE NEIGHBOUR: 'it returns false'. Refute it at one input. -/
def pdivEuclidWrong : ChangeSpec := { name := "pdivEuclid", fn := fun _ => fun
  | [d1, d2, d3] => { results := [.lit (.bool false)], args := [d1, d2, d3] }
  | _ => none }
def PdivEuclidWrongFalsely : Prop := pdivEuclidRow.holds Tryz.pinned (OpenSpec.ofChange pdivEuclidWrong)

/- THE SECOND FORM. 'bulk': how many values and letters a reading holds, each counted each time it is reached (what is shared counts as often as it is met; a slice's spare places count too). A statement '..UptoSaid' is the law's where the arguments, and the package variables that the reading takes, are together of bulk at most 1048576: NARROWER than '..Said'. Prove '..Said' where nothing that the law and all that it calls make is longer than what came in: it says more and counts as full. Else prove '..UptoSaid'. A law counts once. -/
mutual
def uptoBulk {H : Type} : DataW H → Nat
  | .lit (.string bytes) => bytes.length + 1
  | .lit _ => 1
  | .nil => 1
  | .ptr d => uptoBulk d + 1
  | .slice elems spare => uptoBulkAll elems + uptoBulkAll spare + 1
  | .agg parts => uptoBulkAll parts + 1
  | .iface _ d => uptoBulk d + 1
  | .map entries => uptoBulkEntries entries + 1
  | .held _ => 1
def uptoBulkAll {H : Type} : List (DataW H) → Nat
  | [] => 0
  | d :: r => uptoBulk d + uptoBulkAll r
def uptoBulkEntries {H : Type} : List (Lit × DataW H) → Nat
  | [] => 0
  | x :: r => uptoBulkEntry x + uptoBulkEntries r
def uptoBulkEntry {H : Type} : Lit × DataW H → Nat
  | (.string bytes, d) => bytes.length + uptoBulk d + 1
  | (_, d) => uptoBulk d + 1
 end
def uptoSmall : (H : Type) → List (DataW H) → Bool := fun _ ds => decide (uptoBulkAll ds ≤ 1048576)
def OpenSpec.upto (s : _root_.Go.ChangeSpec) : _root_.Go.OpenSpec := { _root_.Go.OpenSpec.ofChange s with cond := some uptoSmall }

/-- 'orrerylaw05.PolyLaws', WHERE WHAT IT READS IS OF BULK AT MOST 1048576: true; the input reads as it did. -/
def polyLawsUptoRow : OpenClaim := { program := "yteblgmjpociffaagreat", sum := "b39fd865b6fa23a40c44fedb4cdb65fbea27b41d473c207ab7927901dcba1dde", func := "orrery/orrerylaw05.PolyLaws", spec := "polyLaws", unfollowed := true, recurses := true, named := ["math/bits.overflowError"], apart := false, narrowed := true }
def PolyLawsUptoSaid : Prop := polyLawsUptoRow.holds Tryz.pinned (OpenSpec.upto polyLawsSpec)

/-- 'orrerylaw06.PdivContents', WHERE WHAT IT READS IS OF BULK AT MOST 1048576: true; the input reads as it did. -/
def pdivContentsUptoRow : OpenClaim := { program := "yteblgmjpociffaagreat", sum := "b39fd865b6fa23a40c44fedb4cdb65fbea27b41d473c207ab7927901dcba1dde", func := "orrery/orrerylaw06.PdivContents", spec := "pdivContents", unfollowed := true, recurses := true, named := ["math/bits.overflowError"], apart := false, narrowed := true }
def PdivContentsUptoSaid : Prop := pdivContentsUptoRow.holds Tryz.pinned (OpenSpec.upto pdivContentsSpec)

/-- 'orrerylaw06.PdivPseudos', WHERE WHAT IT READS IS OF BULK AT MOST 1048576: true; the input reads as it did. -/
def pdivPseudosUptoRow : OpenClaim := { program := "yteblgmjpociffaagreat", sum := "b39fd865b6fa23a40c44fedb4cdb65fbea27b41d473c207ab7927901dcba1dde", func := "orrery/orrerylaw06.PdivPseudos", spec := "pdivPseudos", unfollowed := true, recurses := true, named := ["math/bits.overflowError"], apart := false, narrowed := true }
def PdivPseudosUptoSaid : Prop := pdivPseudosUptoRow.holds Tryz.pinned (OpenSpec.upto pdivPseudosSpec)

/-- 'orrerylaw06.PdivExacts', WHERE WHAT IT READS IS OF BULK AT MOST 1048576: true; the input reads as it did. -/
def pdivExactsUptoRow : OpenClaim := { program := "yteblgmjpociffaagreat", sum := "b39fd865b6fa23a40c44fedb4cdb65fbea27b41d473c207ab7927901dcba1dde", func := "orrery/orrerylaw06.PdivExacts", spec := "pdivExacts", unfollowed := true, recurses := true, named := ["math/bits.overflowError"], apart := false, narrowed := true }
def PdivExactsUptoSaid : Prop := pdivExactsUptoRow.holds Tryz.pinned (OpenSpec.upto pdivExactsSpec)

/-- 'orrerylaw06.PdivRests', WHERE WHAT IT READS IS OF BULK AT MOST 1048576: true; the input reads as it did. -/
def pdivRestsUptoRow : OpenClaim := { program := "yteblgmjpociffaagreat", sum := "b39fd865b6fa23a40c44fedb4cdb65fbea27b41d473c207ab7927901dcba1dde", func := "orrery/orrerylaw06.PdivRests", spec := "pdivRests", unfollowed := true, recurses := true, named := ["math/bits.overflowError"], apart := false, narrowed := true }
def PdivRestsUptoSaid : Prop := pdivRestsUptoRow.holds Tryz.pinned (OpenSpec.upto pdivRestsSpec)

/-- 'orrerylaw06.PdivBack', WHERE WHAT IT READS IS OF BULK AT MOST 1048576: true; the input reads as it did. -/
def pdivBackUptoRow : OpenClaim := { program := "yteblgmjpociffaagreat", sum := "b39fd865b6fa23a40c44fedb4cdb65fbea27b41d473c207ab7927901dcba1dde", func := "orrery/orrerylaw06.PdivBack", spec := "pdivBack", unfollowed := true, recurses := true, named := ["math/bits.overflowError"], apart := false, narrowed := true }
def PdivBackUptoSaid : Prop := pdivBackUptoRow.holds Tryz.pinned (OpenSpec.upto pdivBackSpec)

/-- 'orrerylaw06.PdivParts', WHERE WHAT IT READS IS OF BULK AT MOST 1048576: true; the input reads as it did. -/
def pdivPartsUptoRow : OpenClaim := { program := "yteblgmjpociffaagreat", sum := "b39fd865b6fa23a40c44fedb4cdb65fbea27b41d473c207ab7927901dcba1dde", func := "orrery/orrerylaw06.PdivParts", spec := "pdivParts", unfollowed := true, recurses := true, named := ["math/bits.overflowError"], apart := false, narrowed := true }
def PdivPartsUptoSaid : Prop := pdivPartsUptoRow.holds Tryz.pinned (OpenSpec.upto pdivPartsSpec)

/-- 'orrerylaw06.PdivEuclid', WHERE WHAT IT READS IS OF BULK AT MOST 1048576: true; the input reads as it did. -/
def pdivEuclidUptoRow : OpenClaim := { program := "yteblgmjpociffaagreat", sum := "b39fd865b6fa23a40c44fedb4cdb65fbea27b41d473c207ab7927901dcba1dde", func := "orrery/orrerylaw06.PdivEuclid", spec := "pdivEuclid", unfollowed := true, recurses := true, named := ["math/bits.overflowError"], apart := false, narrowed := true }
def PdivEuclidUptoSaid : Prop := pdivEuclidUptoRow.holds Tryz.pinned (OpenSpec.upto pdivEuclidSpec)

end Rows
end Go.Proofs.YteblgmjpociffaaGreat
