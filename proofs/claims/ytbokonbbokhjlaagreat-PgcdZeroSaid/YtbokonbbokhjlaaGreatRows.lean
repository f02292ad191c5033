/-
  No cell of these rows narrows 'for every input' (looked for: loops, veiled, ifaces, maps, wideKeys, modest, calm, conditions, laid).
  DERIVED. THE GIVEN ROWS OF THIS SEAT. 7 by the template 'for every input the law returns true; each argument reads behind the call as it read before'; 0 by the template 'total and deterministic' (their statements: YtbokonbbokhjlaaGreatTotals.lean).
  GIVEN WITH THE SEED: the statements are not yours to turn. If you find one false, say at which input.
  Laid BY PROGRAM, IN A SANDBOX (cutbox-rows.mjs): the forced cells as the released guide's own fill.sh prints them over the translation 5504793951d45a32… (all of the seat's roots in one cut). By AI agents, Wed Nov 11 2026. No macro, syntax, notation, axiom, sorry.
-/
import Derived.Test.YtbokonbbokhjlaaGreatChecked
import GoSem.Claim
import GoSem.ClaimJoined
import GoSem.ClaimMapViews
import Derived.JoinedTies
import Derived.KernelRfl
namespace Go.Proofs.YtbokonbbokhjlaaGreat
/- THE CELL 'sum', in the pinned program and in every row, IS THE sha256 OF THE DUMP (.gsa) THAT YtbokonbbokhjlaaGreatProg.lean LOADS. Nothing in Lean hashes anything: it is a label: what it is worth is what the hold of that sum in a sandbox is worth. -/
noncomputable def Tryz.pinned : Pinned := { name := "ytbokonbbokhjlaagreat", sum := "5504793951d45a3280520d7af652545b4747810c73dfe6fdb22032b575706de7", checked := Tryz.checked }
namespace Rows
def none {H : Type} : Left H := { results := [], args := [] }

/-- 'orrerylaw07.PgcdGcds': WHATEVER THE INPUT: true; the input reads as it did. -/
def pgcdGcdsSpec : ChangeSpec := { name := "pgcdGcds", fn := fun _ => fun
  | [d1, d2, d3] => { results := [.lit (.bool true)], args := [d1, d2, d3] }
  | _ => none }
def pgcdGcdsRow : OpenClaim := { program := "ytbokonbbokhjlaagreat", sum := "5504793951d45a3280520d7af652545b4747810c73dfe6fdb22032b575706de7", func := "orrery/orrerylaw07.PgcdGcds", spec := "pgcdGcds", unfollowed := true, recurses := true, named := ["math/bits.overflowError"], apart := false }
def PgcdGcdsSaid : Prop := pgcdGcdsRow.holds Tryz.pinned (OpenSpec.ofChange pgcdGcdsSpec)

/-- ITS FALSE NEIGHBOUR: 'it returns false'. Refute it at one input. -/
def pgcdGcdsWrong : ChangeSpec := { name := "pgcdGcds", fn := fun _ => fun
  | [d1, d2, d3] => { results := [.lit (.bool false)], args := [d1, d2, d3] }
  | _ => none }
def PgcdGcdsWrongFalsely : Prop := pgcdGcdsRow.holds Tryz.pinned (OpenSpec.ofChange pgcdGcdsWrong)

/-- 'orrerylaw07.PgcdRaw': WHATEVER THE INPUT: true; the input reads as it did. -/
def pgcdRawSpec : ChangeSpec := { name := "pgcdRaw", fn := fun _ => fun
  | [d1, d2, d3] => { results := [.lit (.bool true)], args := [d1, d2, d3] }
  | _ => none }
def pgcdRawRow : OpenClaim := { program := "ytbokonbbokhjlaagreat", sum := "5504793951d45a3280520d7af652545b4747810c73dfe6fdb22032b575706de7", func := "orrery/orrerylaw07.PgcdRaw", spec := "pgcdRaw", unfollowed := true, recurses := true, named := ["math/bits.overflowError"], apart := false }
def PgcdRawSaid : Prop := pgcdRawRow.holds Tryz.pinned (OpenSpec.ofChange pgcdRawSpec)

/-- ITS FALSE NEIGHBOUR: 'it returns false'. Refute it at one input. -/
def pgcdRawWrong : ChangeSpec := { name := "pgcdRaw", fn := fun _ => fun
  | [d1, d2, d3] => { results := [.lit (.bool false)], args := [d1, d2, d3] }
  | _ => none }
def PgcdRawWrongFalsely : Prop := pgcdRawRow.holds Tryz.pinned (OpenSpec.ofChange pgcdRawWrong)

/-- 'orrerylaw07.PgcdFactors': WHATEVER THE INPUT: true; the input reads as it did. -/
def pgcdFactorsSpec : ChangeSpec := { name := "pgcdFactors", fn := fun _ => fun
  | [d] => { results := [.lit (.bool true)], args := [d] }
  | _ => none }
def pgcdFactorsRow : OpenClaim := { program := "ytbokonbbokhjlaagreat", sum := "5504793951d45a3280520d7af652545b4747810c73dfe6fdb22032b575706de7", func := "orrery/orrerylaw07.PgcdFactors", spec := "pgcdFactors", unfollowed := true, recurses := true, named := ["math/bits.overflowError"], apart := false }
def PgcdFactorsSaid : Prop := pgcdFactorsRow.holds Tryz.pinned (OpenSpec.ofChange pgcdFactorsSpec)

/-- ITS FALSE NEIGHBOUR: 'it returns false'. Refute it at one input. -/
def pgcdFactorsWrong : ChangeSpec := { name := "pgcdFactors", fn := fun _ => fun
  | [d] => { results := [.lit (.bool false)], args := [d] }
  | _ => none }
def PgcdFactorsWrongFalsely : Prop := pgcdFactorsRow.holds Tryz.pinned (OpenSpec.ofChange pgcdFactorsWrong)

/-- 'orrerylaw07.PgcdZero': WHATEVER THE INPUT: true; the input reads as it did. -/
def pgcdZeroSpec : ChangeSpec := { name := "pgcdZero", fn := fun _ => fun
  | [d] => { results := [.lit (.bool true)], args := [d] }
  | _ => none }
def pgcdZeroRow : OpenClaim := { program := "ytbokonbbokhjlaagreat", sum := "5504793951d45a3280520d7af652545b4747810c73dfe6fdb22032b575706de7", func := "orrery/orrerylaw07.PgcdZero", spec := "pgcdZero", unfollowed := true, recurses := true, named := ["math/bits.overflowError"], apart := false }
def PgcdZeroSaid : Prop := pgcdZeroRow.holds Tryz.pinned (OpenSpec.ofChange pgcdZeroSpec)

/-- ITS FALSE NEIGHBOUR: 'it returns false'. Refute it at one input. -/
def pgcdZeroWrong : ChangeSpec := { name := "pgcdZero", fn := fun _ => fun
  | [d] => { results := [.lit (.bool false)], args := [d] }
  | _ => none }
def PgcdZeroWrongFalsely : Prop := pgcdZeroRow.holds Tryz.pinned (OpenSpec.ofChange pgcdZeroWrong)

/-- 'orrerylaw07.PgcdLaws': WHATEVER THE INPUT: true; the input reads as it did. -/
def pgcdLawsSpec : ChangeSpec := { name := "pgcdLaws", fn := fun _ => fun
  | [d] => { results := [.lit (.bool true)], args := [d] }
  | _ => none }
def pgcdLawsRow : OpenClaim := { program := "ytbokonbbokhjlaagreat", sum := "5504793951d45a3280520d7af652545b4747810c73dfe6fdb22032b575706de7", func := "orrery/orrerylaw07.PgcdLaws", spec := "pgcdLaws", unfollowed := true, recurses := true, named := ["math/bits.overflowError"], apart := false }
def PgcdLawsSaid : Prop := pgcdLawsRow.holds Tryz.pinned (OpenSpec.ofChange pgcdLawsSpec)

/-- ITS FALSE NEIGHBOUR: 'it returns false'. Refute it at one input. -/
def pgcdLawsWrong : ChangeSpec := { name := "pgcdLaws", fn := fun _ => fun
  | [d] => { results := [.lit (.bool false)], args := [d] }
  | _ => none }
def PgcdLawsWrongFalsely : Prop := pgcdLawsRow.holds Tryz.pinned (OpenSpec.ofChange pgcdLawsWrong)

/-- 'orrerylaw07.PgcdShares': WHATEVER THE INPUT: true; the input reads as it did. -/
def pgcdSharesSpec : ChangeSpec := { name := "pgcdShares", fn := fun _ => fun
  | [d1, d2, d3, d4] => { results := [.lit (.bool true)], args := [d1, d2, d3, d4] }
  | _ => none }
def pgcdSharesRow : OpenClaim := { program := "ytbokonbbokhjlaagreat", sum := "5504793951d45a3280520d7af652545b4747810c73dfe6fdb22032b575706de7", func := "orrery/orrerylaw07.PgcdShares", spec := "pgcdShares", unfollowed := true, recurses := true, named := ["math/bits.overflowError"], apart := false }
def PgcdSharesSaid : Prop := pgcdSharesRow.holds Tryz.pinned (OpenSpec.ofChange pgcdSharesSpec)

/-- ITS FALSE NEIGHBOUR: 'it returns false'. Refute it at one input. -/
def pgcdSharesWrong : ChangeSpec := { name := "pgcdShares", fn := fun _ => fun
  | [d1, d2, d3, d4] => { results := [.lit (.bool false)], args := [d1, d2, d3, d4] }
  | _ => none }
def PgcdSharesWrongFalsely : Prop := pgcdSharesRow.holds Tryz.pinned (OpenSpec.ofChange pgcdSharesWrong)

/-- 'orrerylaw07.PgcdOdds': WHATEVER THE INPUT: true; the input reads as it did. -/
def pgcdOddsSpec : ChangeSpec := { name := "pgcdOdds", fn := fun _ => fun
  | [d1, d2] => { results := [.lit (.bool true)], args := [d1, d2] }
  | _ => none }
def pgcdOddsRow : OpenClaim := { program := "ytbokonbbokhjlaagreat", sum := "5504793951d45a3280520d7af652545b4747810c73dfe6fdb22032b575706de7", func := "orrery/orrerylaw07.PgcdOdds", spec := "pgcdOdds", unfollowed := true, recurses := true, named := ["math/bits.overflowError"], apart := false }
def PgcdOddsSaid : Prop := pgcdOddsRow.holds Tryz.pinned (OpenSpec.ofChange pgcdOddsSpec)

/-- ITS FALSE NEIGHBOUR: 'it returns false'. Refute it at one input. -/
def pgcdOddsWrong : ChangeSpec := { name := "pgcdOdds", fn := fun _ => fun
  | [d1, d2] => { results := [.lit (.bool false)], args := [d1, d2] }
  | _ => none }
def PgcdOddsWrongFalsely : Prop := pgcdOddsRow.holds Tryz.pinned (OpenSpec.ofChange pgcdOddsWrong)

/- THE SECOND FORM. 'bulk': how many values and letters a reading holds, each counted each time it is reached (what is shared counts as often as it is met; a slice's spare places count too). A statement '..UptoSaid' is the law's where the arguments, and the package variables that the reading takes, are together of bulk at most 1048576: NARROWER than '..Said'. Prove '..Said' where nothing that the law and all that it calls make is longer than what came in: it says more and counts as full. Else prove '..UptoSaid'. A law counts once. -/
mutual
def uptoBulk {H : Type} : DataW H → Nat
  | .lit (.string bytes) => bytes.length + 1
  | .lit _ => 1
  | .nil => 1
  | .ptr d => uptoBulk d + 1
  | .slice elems spare => uptoBulkAll elems + uptoBulkAll spare + 1
  | .agg parts => uptoBulkAll parts + 1
  | .iface _ d => uptoBulk d + 1
  | .map entries => uptoBulkEntries entries + 1
  | .held _ => 1
def uptoBulkAll {H : Type} : List (DataW H) → Nat
  | [] => 0
  | d :: r => uptoBulk d + uptoBulkAll r
def uptoBulkEntries {H : Type} : List (Lit × DataW H) → Nat
  | [] => 0
  | x :: r => uptoBulkEntry x + uptoBulkEntries r
def uptoBulkEntry {H : Type} : Lit × DataW H → Nat
  | (.string bytes, d) => bytes.length + uptoBulk d + 1
  | (_, d) => uptoBulk d + 1
 end
def uptoSmall : (H : Type) → List (DataW H) → Bool := fun _ ds => decide (uptoBulkAll ds ≤ 1048576)
def OpenSpec.upto (s : _root_.Go.ChangeSpec) : _root_.Go.OpenSpec := { _root_.Go.OpenSpec.ofChange s with cond := some uptoSmall }

/-- 'orrerylaw07.PgcdGcds', WHERE WHAT IT READS IS OF BULK AT MOST 1048576: true; the input reads as it did. -/
def pgcdGcdsUptoRow : OpenClaim := { program := "ytbokonbbokhjlaagreat", sum := "5504793951d45a3280520d7af652545b4747810c73dfe6fdb22032b575706de7", func := "orrery/orrerylaw07.PgcdGcds", spec := "pgcdGcds", unfollowed := true, recurses := true, named := ["math/bits.overflowError"], apart := false, narrowed := true }
def PgcdGcdsUptoSaid : Prop := pgcdGcdsUptoRow.holds Tryz.pinned (OpenSpec.upto pgcdGcdsSpec)

/-- 'orrerylaw07.PgcdRaw', WHERE WHAT IT READS IS OF BULK AT MOST 1048576: true; the input reads as it did. -/
def pgcdRawUptoRow : OpenClaim := { program := "ytbokonbbokhjlaagreat", sum := "5504793951d45a3280520d7af652545b4747810c73dfe6fdb22032b575706de7", func := "orrery/orrerylaw07.PgcdRaw", spec := "pgcdRaw", unfollowed := true, recurses := true, named := ["math/bits.overflowError"], apart := false, narrowed := true }
def PgcdRawUptoSaid : Prop := pgcdRawUptoRow.holds Tryz.pinned (OpenSpec.upto pgcdRawSpec)

/-- 'orrerylaw07.PgcdFactors', WHERE WHAT IT READS IS OF BULK AT MOST 1048576: true; the input reads as it did. -/
def pgcdFactorsUptoRow : OpenClaim := { program := "ytbokonbbokhjlaagreat", sum := "5504793951d45a3280520d7af652545b4747810c73dfe6fdb22032b575706de7", func := "orrery/orrerylaw07.PgcdFactors", spec := "pgcdFactors", unfollowed := true, recurses := true, named := ["math/bits.overflowError"], apart := false, narrowed := true }
def PgcdFactorsUptoSaid : Prop := pgcdFactorsUptoRow.holds Tryz.pinned (OpenSpec.upto pgcdFactorsSpec)

/-- 'orrerylaw07.PgcdZero', WHERE WHAT IT READS IS OF BULK AT MOST 1048576: true; the input reads as it did. -/
def pgcdZeroUptoRow : OpenClaim := { program := "ytbokonbbokhjlaagreat", sum := "5504793951d45a3280520d7af652545b4747810c73dfe6fdb22032b575706de7", func := "orrery/orrerylaw07.PgcdZero", spec := "pgcdZero", unfollowed := true, recurses := true, named := ["math/bits.overflowError"], apart := false, narrowed := true }
def PgcdZeroUptoSaid : Prop := pgcdZeroUptoRow.holds Tryz.pinned (OpenSpec.upto pgcdZeroSpec)

/-- 'orrerylaw07.PgcdLaws', WHERE WHAT IT READS IS OF BULK AT MOST 1048576: true; the input reads as it did. -/
def pgcdLawsUptoRow : OpenClaim := { program := "ytbokonbbokhjlaagreat", sum := "5504793951d45a3280520d7af652545b4747810c73dfe6fdb22032b575706de7", func := "orrery/orrerylaw07.PgcdLaws", spec := "pgcdLaws", unfollowed := true, recurses := true, named := ["math/bits.overflowError"], apart := false, narrowed := true }
def PgcdLawsUptoSaid : Prop := pgcdLawsUptoRow.holds Tryz.pinned (OpenSpec.upto pgcdLawsSpec)

/-- 'orrerylaw07.PgcdShares', WHERE WHAT IT READS IS OF BULK AT MOST 1048576: true; the input reads as it did. -/
def pgcdSharesUptoRow : OpenClaim := { program := "ytbokonbbokhjlaagreat", sum := "5504793951d45a3280520d7af652545b4747810c73dfe6fdb22032b575706de7", func := "orrery/orrerylaw07.PgcdShares", spec := "pgcdShares", unfollowed := true, recurses := true, named := ["math/bits.overflowError"], apart := false, narrowed := true }
def PgcdSharesUptoSaid : Prop := pgcdSharesUptoRow.holds Tryz.pinned (OpenSpec.upto pgcdSharesSpec)

/-- 'orrerylaw07.PgcdOdds', WHERE WHAT IT READS IS OF BULK AT MOST 1048576: true; the input reads as it did. -/
def pgcdOddsUptoRow : OpenClaim := { program := "ytbokonbbokhjlaagreat", sum := "5504793951d45a3280520d7af652545b4747810c73dfe6fdb22032b575706de7", func := "orrery/orrerylaw07.PgcdOdds", spec := "pgcdOdds", unfollowed := true, recurses := true, named := ["math/bits.overflowError"], apart := false, narrowed := true }
def PgcdOddsUptoSaid : Prop := pgcdOddsUptoRow.holds Tryz.pinned (OpenSpec.upto pgcdOddsSpec)

end Rows
end Go.Proofs.YtbokonbbokhjlaaGreat
