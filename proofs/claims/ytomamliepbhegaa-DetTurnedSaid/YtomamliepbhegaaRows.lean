/-
  No cell of these rows narrows 'for every input' (looked for: loops, veiled, ifaces, maps, wideKeys, modest, calm, conditions, laid).
  DERIVED. THE GIVEN ROWS OF THIS SEAT. 5 by the template 'for every input the law returns true; each argument reads behind the call as it read before'; 0 by the template 'total and deterministic' (their statements: YtomamliepbhegaaTotals.lean).
  GIVEN WITH THE SEED: the statements are not yours to turn. If you find one false, say at which input.
  Laid BY PROGRAM, IN A SANDBOX (cutbox-rows.mjs): the forced cells as the released guide's own fill.sh prints them over the translation 36f207609c62a2a1… (all of the seat's roots in one cut). By AI agents, Wed Nov 11 2026. No macro, syntax, notation, axiom, sorry.
-/
import Derived.Test.YtomamliepbhegaaChecked
import GoSem.Claim
import GoSem.ClaimJoined
import GoSem.ClaimMapViews
import Derived.JoinedTies
import Derived.KernelRfl
namespace Go.Proofs.Ytomamliepbhegaa
/- THE CELL 'sum', in the pinned program and in every row, IS THE sha256 OF THE DUMP (.gsa) THAT YtomamliepbhegaaProg.lean LOADS. Nothing in Lean hashes anything: it is a label: what it is worth is what the hold of that sum in a sandbox is worth. -/
noncomputable def Try.pinned : Pinned := { name := "ytomamliepbhegaa", sum := "36f207609c62a2a187cf7a9812d4931f086ca7863fbbd93e38d73a3b28c73693", checked := Try.checked }
namespace Rows
def none {H : Type} : Left H := { results := [], args := [] }

/-- 'orrerylaw13.DetDets': WHATEVER THE INPUT: true; the input reads as it did. -/
def detDetsSpec : ChangeSpec := { name := "detDets", fn := fun _ => fun
  | [d1, d2, d3] => { results := [.lit (.bool true)], args := [d1, d2, d3] }
  | _ => none }
def detDetsRow : OpenClaim := { program := "ytomamliepbhegaa", sum := "36f207609c62a2a187cf7a9812d4931f086ca7863fbbd93e38d73a3b28c73693", func := "orrery/orrerylaw13.DetDets", spec := "detDets", unfollowed := true, recurses := true, apart := false }
def DetDetsSaid : Prop := detDetsRow.holds Try.pinned (OpenSpec.ofChange detDetsSpec)

/-- ITS FALSE NEIGHBOUR: 'it returns false'. Refute it at one input. -/
def detDetsWrong : ChangeSpec := { name := "detDets", fn := fun _ => fun
  | [d1, d2, d3] => { results := [.lit (.bool false)], args := [d1, d2, d3] }
  | _ => none }
def DetDetsWrongFalsely : Prop := detDetsRow.holds Try.pinned (OpenSpec.ofChange detDetsWrong)

/-- 'orrerylaw13.DetMinors': WHATEVER THE INPUT: true; the input reads as it did. -/
def detMinorsSpec : ChangeSpec := { name := "detMinors", fn := fun _ => fun
  | [d1, d2, d3, d4] => { results := [.lit (.bool true)], args := [d1, d2, d3, d4] }
  | _ => none }
def detMinorsRow : OpenClaim := { program := "ytomamliepbhegaa", sum := "36f207609c62a2a187cf7a9812d4931f086ca7863fbbd93e38d73a3b28c73693", func := "orrery/orrerylaw13.DetMinors", spec := "detMinors", unfollowed := true, recurses := true, apart := false }
def DetMinorsSaid : Prop := detMinorsRow.holds Try.pinned (OpenSpec.ofChange detMinorsSpec)

/-- ITS FALSE NEIGHBOUR: 'it returns false'. Refute it at one input. -/
def detMinorsWrong : ChangeSpec := { name := "detMinors", fn := fun _ => fun
  | [d1, d2, d3, d4] => { results := [.lit (.bool false)], args := [d1, d2, d3, d4] }
  | _ => none }
def DetMinorsWrongFalsely : Prop := detMinorsRow.holds Try.pinned (OpenSpec.ofChange detMinorsWrong)

/-- 'orrerylaw13.DetLaws': WHATEVER THE INPUT: true; the input reads as it did. -/
def detLawsSpec : ChangeSpec := { name := "detLaws", fn := fun _ => fun
  | [d1, d2, d3, d4, d5] => { results := [.lit (.bool true)], args := [d1, d2, d3, d4, d5] }
  | _ => none }
def detLawsRow : OpenClaim := { program := "ytomamliepbhegaa", sum := "36f207609c62a2a187cf7a9812d4931f086ca7863fbbd93e38d73a3b28c73693", func := "orrery/orrerylaw13.DetLaws", spec := "detLaws", unfollowed := true, recurses := true, apart := false }
def DetLawsSaid : Prop := detLawsRow.holds Try.pinned (OpenSpec.ofChange detLawsSpec)

/-- ITS FALSE NEIGHBOUR: 'it returns false'. Refute it at one input. -/
def detLawsWrong : ChangeSpec := { name := "detLaws", fn := fun _ => fun
  | [d1, d2, d3, d4, d5] => { results := [.lit (.bool false)], args := [d1, d2, d3, d4, d5] }
  | _ => none }
def DetLawsWrongFalsely : Prop := detLawsRow.holds Try.pinned (OpenSpec.ofChange detLawsWrong)

/-- 'orrerylaw13.DetTurned': WHATEVER THE INPUT: true; the input reads as it did. -/
def detTurnedSpec : ChangeSpec := { name := "detTurned", fn := fun _ => fun
  | [d1, d2, d3, d4] => { results := [.lit (.bool true)], args := [d1, d2, d3, d4] }
  | _ => none }
def detTurnedRow : OpenClaim := { program := "ytomamliepbhegaa", sum := "36f207609c62a2a187cf7a9812d4931f086ca7863fbbd93e38d73a3b28c73693", func := "orrery/orrerylaw13.DetTurned", spec := "detTurned", unfollowed := true, recurses := true, apart := false }
def DetTurnedSaid : Prop := detTurnedRow.holds Try.pinned (OpenSpec.ofChange detTurnedSpec)

/-- ITS FALSE NEIGHBOUR: 'it returns false'. Refute it at one input. -/
def detTurnedWrong : ChangeSpec := { name := "detTurned", fn := fun _ => fun
  | [d1, d2, d3, d4] => { results := [.lit (.bool false)], args := [d1, d2, d3, d4] }
  | _ => none }
def DetTurnedWrongFalsely : Prop := detTurnedRow.holds Try.pinned (OpenSpec.ofChange detTurnedWrong)

/-- 'orrerylaw13.DetExpands': WHATEVER THE INPUT: true; the input reads as it did. -/
def detExpandsSpec : ChangeSpec := { name := "detExpands", fn := fun _ => fun
  | [d1, d2, d3] => { results := [.lit (.bool true)], args := [d1, d2, d3] }
  | _ => none }
def detExpandsRow : OpenClaim := { program := "ytomamliepbhegaa", sum := "36f207609c62a2a187cf7a9812d4931f086ca7863fbbd93e38d73a3b28c73693", func := "orrery/orrerylaw13.DetExpands", spec := "detExpands", unfollowed := true, recurses := true, apart := false }
def DetExpandsSaid : Prop := detExpandsRow.holds Try.pinned (OpenSpec.ofChange detExpandsSpec)

/-- ITS FALSE NEIGHBOUR: 'it returns false'. Refute it at one input. -/
def detExpandsWrong : ChangeSpec := { name := "detExpands", fn := fun _ => fun
  | [d1, d2, d3] => { results := [.lit (.bool false)], args := [d1, d2, d3] }
  | _ => none }
def DetExpandsWrongFalsely : Prop := detExpandsRow.holds Try.pinned (OpenSpec.ofChange detExpandsWrong)

/- THE SECOND FORM. 'bulk': how many values and letters a reading holds, each counted each time it is reached (what is shared counts as often as it is met; a slice's spare places count too). A statement '..UptoSaid' is the law's where the arguments, and the package variables that the reading takes, are together of bulk at most 1048576: NARROWER than '..Said'. Prove '..Said' where nothing that the law and all that it calls make is longer than what came in: it says more and counts as full. Else prove '..UptoSaid'. A law counts once. -/
mutual
def uptoBulk {H : Type} : DataW H → Nat
  | .lit (.string bytes) => bytes.length + 1
  | .lit _ => 1
  | .nil => 1
  | .ptr d => uptoBulk d + 1
  | .slice elems spare => uptoBulkAll elems + uptoBulkAll spare + 1
  | .agg parts => uptoBulkAll parts + 1
  | .iface _ d => uptoBulk d + 1
  | .map entries => uptoBulkEntries entries + 1
  | .held _ => 1
def uptoBulkAll {H : Type} : List (DataW H) → Nat
  | [] => 0
  | d :: r => uptoBulk d + uptoBulkAll r
def uptoBulkEntries {H : Type} : List (Lit × DataW H) → Nat
  | [] => 0
  | x :: r => uptoBulkEntry x + uptoBulkEntries r
def uptoBulkEntry {H : Type} : Lit × DataW H → Nat
  | (.string bytes, d) => bytes.length + uptoBulk d + 1
  | (_, d) => uptoBulk d + 1
 end
def uptoSmall : (H : Type) → List (DataW H) → Bool := fun _ ds => decide (uptoBulkAll ds ≤ 1048576)
def OpenSpec.upto (s : _root_.Go.ChangeSpec) : _root_.Go.OpenSpec := { _root_.Go.OpenSpec.ofChange s with cond := some uptoSmall }

/-- 'orrerylaw13.DetDets', WHERE WHAT IT READS IS OF BULK AT MOST 1048576: true; the input reads as it did. -/
def detDetsUptoRow : OpenClaim := { program := "ytomamliepbhegaa", sum := "36f207609c62a2a187cf7a9812d4931f086ca7863fbbd93e38d73a3b28c73693", func := "orrery/orrerylaw13.DetDets", spec := "detDets", unfollowed := true, recurses := true, apart := false, narrowed := true }
def DetDetsUptoSaid : Prop := detDetsUptoRow.holds Try.pinned (OpenSpec.upto detDetsSpec)

/-- 'orrerylaw13.DetMinors', WHERE WHAT IT READS IS OF BULK AT MOST 1048576: true; the input reads as it did. -/
def detMinorsUptoRow : OpenClaim := { program := "ytomamliepbhegaa", sum := "36f207609c62a2a187cf7a9812d4931f086ca7863fbbd93e38d73a3b28c73693", func := "orrery/orrerylaw13.DetMinors", spec := "detMinors", unfollowed := true, recurses := true, apart := false, narrowed := true }
def DetMinorsUptoSaid : Prop := detMinorsUptoRow.holds Try.pinned (OpenSpec.upto detMinorsSpec)

/-- 'orrerylaw13.DetLaws', WHERE WHAT IT READS IS OF BULK AT MOST 1048576: true; the input reads as it did. -/
def detLawsUptoRow : OpenClaim := { program := "ytomamliepbhegaa", sum := "36f207609c62a2a187cf7a9812d4931f086ca7863fbbd93e38d73a3b28c73693", func := "orrery/orrerylaw13.DetLaws", spec := "detLaws", unfollowed := true, recurses := true, apart := false, narrowed := true }
def DetLawsUptoSaid : Prop := detLawsUptoRow.holds Try.pinned (OpenSpec.upto detLawsSpec)

/-- 'orrerylaw13.DetTurned', WHERE WHAT IT READS IS OF BULK AT MOST 1048576: true; the input reads as it did. -/
def detTurnedUptoRow : OpenClaim := { program := "ytomamliepbhegaa", sum := "36f207609c62a2a187cf7a9812d4931f086ca7863fbbd93e38d73a3b28c73693", func := "orrery/orrerylaw13.DetTurned", spec := "detTurned", unfollowed := true, recurses := true, apart := false, narrowed := true }
def DetTurnedUptoSaid : Prop := detTurnedUptoRow.holds Try.pinned (OpenSpec.upto detTurnedSpec)

/-- 'orrerylaw13.DetExpands', WHERE WHAT IT READS IS OF BULK AT MOST 1048576: true; the input reads as it did. -/
def detExpandsUptoRow : OpenClaim := { program := "ytomamliepbhegaa", sum := "36f207609c62a2a187cf7a9812d4931f086ca7863fbbd93e38d73a3b28c73693", func := "orrery/orrerylaw13.DetExpands", spec := "detExpands", unfollowed := true, recurses := true, apart := false, narrowed := true }
def DetExpandsUptoSaid : Prop := detExpandsUptoRow.holds Try.pinned (OpenSpec.upto detExpandsSpec)

end Rows
end Go.Proofs.Ytomamliepbhegaa
