/-
  No cell of these rows narrows 'for every input' (looked for: loops, veiled, ifaces, maps, wideKeys, modest, calm, conditions, laid).
  DERIVED. THE GIVEN ROWS OF THIS SEAT. 3 by the template 'for every input the law returns true; each argument reads behind the call as it read before'; 0 by the template 'total and deterministic' (their statements: YtomamliepbhegaaGreatTotals.lean).
  GIVEN WITH THE SEED: the statements are not yours to turn. If you find one false, say at which input.
  Laid BY PROGRAM, IN A SANDBOX (cutbox-rows.mjs): the forced cells as the released guide's own fill.sh prints them over the translation d05fafa36f1f0688… (all of the seat's roots in one cut). By AI agents, Wed Nov 11 2026. No macro, syntax, notation, axiom, sorry.
-/
import Derived.Test.YtomamliepbhegaaGreatChecked
import GoSem.Claim
import GoSem.ClaimJoined
import GoSem.ClaimMapViews
import Derived.JoinedTies
import Derived.KernelRfl
namespace Go.Proofs.YtomamliepbhegaaGreat
/- THE CELL 'sum', in the pinned program and in every row, IS THE sha256 OF THE DUMP (.gsa) THAT YtomamliepbhegaaGreatProg.lean LOADS. Nothing in Lean hashes anything: it is a label: what it is worth is what the hold of that sum in a sandbox is worth. -/
noncomputable def Tryz.pinned : Pinned := { name := "ytomamliepbhegaagreat", sum := "d05fafa36f1f0688a06d164d4de103b1cb75cd35e78145aa283381bf147e1023", checked := Tryz.checked }
namespace Rows
def none {H : Type} : Left H := { results := [], args := [] }

/-- 'orrerylaw07.PgcdGcds': WHATEVER THE INPUT: true; the input reads as it did. -/
def pgcdGcdsSpec : ChangeSpec := { name := "pgcdGcds", fn := fun _ => fun
  | [d1, d2, d3] => { results := [.lit (.bool true)], args := [d1, d2, d3] }
  | _ => none }
def pgcdGcdsRow : OpenClaim := { program := "ytomamliepbhegaagreat", sum := "d05fafa36f1f0688a06d164d4de103b1cb75cd35e78145aa283381bf147e1023", func := "orrery/orrerylaw07.PgcdGcds", spec := "pgcdGcds", unfollowed := true, recurses := true, named := ["math/bits.overflowError"], apart := false }
def PgcdGcdsSaid : Prop := pgcdGcdsRow.holds Tryz.pinned (OpenSpec.ofChange pgcdGcdsSpec)

/-- ITS FALSE NEIGHBOUR: 'it returns false'. Refute it at one input. -/
def pgcdGcdsWrong : ChangeSpec := { name := "pgcdGcds", fn := fun _ => fun
  | [d1, d2, d3] => { results := [.lit (.bool false)], args := [d1, d2, d3] }
  | _ => none }
def PgcdGcdsWrongFalsely : Prop := pgcdGcdsRow.holds Tryz.pinned (OpenSpec.ofChange pgcdGcdsWrong)

/-- 'orrerylaw07.PgcdRaw': WHATEVER THE INPUT: true; the input reads as it did. -/
def pgcdRawSpec : ChangeSpec := { name := "pgcdRaw", fn := fun _ => fun
  | [d1, d2, d3] => { results := [.lit (.bool true)], args := [d1, d2, d3] }
  | _ => none }
def pgcdRawRow : OpenClaim := { program := "ytomamliepbhegaagreat", sum := "d05fafa36f1f0688a06d164d4de103b1cb75cd35e78145aa283381bf147e1023", func := "orrery/orrerylaw07.PgcdRaw", spec := "pgcdRaw", unfollowed := true, recurses := true, named := ["math/bits.overflowError"], apart := false }
def PgcdRawSaid : Prop := pgcdRawRow.holds Tryz.pinned (OpenSpec.ofChange pgcdRawSpec)

/-- ITS FALSE NEIGHBOUR: 'it returns false'. Refute it at one input. -/
def pgcdRawWrong : ChangeSpec := { name := "pgcdRaw", fn := fun _ => fun
  | [d1, d2, d3] => { results := [.lit (.bool false)], args := [d1, d2, d3] }
  | _ => none }
def PgcdRawWrongFalsely : Prop := pgcdRawRow.holds Tryz.pinned (OpenSpec.ofChange pgcdRawWrong)

/-- 'orrerylaw07.PgcdShares': WHATEVER THE INPUT: true; the input reads as it did. -/
def pgcdSharesSpec : ChangeSpec := { name := "pgcdShares", fn := fun _ => fun
  | [d1, d2, d3, d4] => { results := [.lit (.bool true)], args := [d1, d2, d3, d4] }
  | _ => none }
def pgcdSharesRow : OpenClaim := { program := "ytomamliepbhegaagreat", sum := "d05fafa36f1f0688a06d164d4de103b1cb75cd35e78145aa283381bf147e1023", func := "orrery/orrerylaw07.PgcdShares", spec := "pgcdShares", unfollowed := true, recurses := true, named := ["math/bits.overflowError"], apart := false }
def PgcdSharesSaid : Prop := pgcdSharesRow.holds Tryz.pinned (OpenSpec.ofChange pgcdSharesSpec)

/-- ITS FALSE NEIGHBOUR: 'it returns false'. Refute it at one input. -/
def pgcdSharesWrong : ChangeSpec := { name := "pgcdShares", fn := fun _ => fun
  | [d1, d2, d3, d4] => { results := [.lit (.bool false)], args := [d1, d2, d3, d4] }
  | _ => none }
def PgcdSharesWrongFalsely : Prop := pgcdSharesRow.holds Tryz.pinned (OpenSpec.ofChange pgcdSharesWrong)

/- THE SECOND FORM. 'bulk': how many values and letters a reading holds, each counted each time it is reached (what is shared counts as often as it is met; a slice's spare places count too). A statement '..UptoSaid' is the law's where the arguments, and the package variables that the reading takes, are together of bulk at most 1048576: NARROWER than '..Said'. Prove '..Said' where nothing that the law and all that it calls make is longer than what came in: it says more and counts as full. Else prove '..UptoSaid'. A law counts once. -/
mutual
def uptoBulk {H : Type} : DataW H → Nat
  | .lit (.string bytes) => bytes.length + 1
  | .lit _ => 1
  | .nil => 1
  | .ptr d => uptoBulk d + 1
  | .slice elems spare => uptoBulkAll elems + uptoBulkAll spare + 1
  | .agg parts => uptoBulkAll parts + 1
  | .iface _ d => uptoBulk d + 1
  | .map entries => uptoBulkEntries entries + 1
  | .held _ => 1
def uptoBulkAll {H : Type} : List (DataW H) → Nat
  | [] => 0
  | d :: r => uptoBulk d + uptoBulkAll r
def uptoBulkEntries {H : Type} : List (Lit × DataW H) → Nat
  | [] => 0
  | x :: r => uptoBulkEntry x + uptoBulkEntries r
def uptoBulkEntry {H : Type} : Lit × DataW H → Nat
  | (.string bytes, d) => bytes.length + uptoBulk d + 1
  | (_, d) => uptoBulk d + 1
 end
def uptoSmall : (H : Type) → List (DataW H) → Bool := fun _ ds => decide (uptoBulkAll ds ≤ 1048576)
def OpenSpec.upto (s : _root_.Go.ChangeSpec) : _root_.Go.OpenSpec := { _root_.Go.OpenSpec.ofChange s with cond := some uptoSmall }

/-- 'orrerylaw07.PgcdGcds', WHERE WHAT IT READS IS OF BULK AT MOST 1048576: true; the input reads as it did. -/
def pgcdGcdsUptoRow : OpenClaim := { program := "ytomamliepbhegaagreat", sum := "d05fafa36f1f0688a06d164d4de103b1cb75cd35e78145aa283381bf147e1023", func := "orrery/orrerylaw07.PgcdGcds", spec := "pgcdGcds", unfollowed := true, recurses := true, named := ["math/bits.overflowError"], apart := false, narrowed := true }
def PgcdGcdsUptoSaid : Prop := pgcdGcdsUptoRow.holds Tryz.pinned (OpenSpec.upto pgcdGcdsSpec)

/-- 'orrerylaw07.PgcdRaw', WHERE WHAT IT READS IS OF BULK AT MOST 1048576: true; the input reads as it did. -/
def pgcdRawUptoRow : OpenClaim := { program := "ytomamliepbhegaagreat", sum := "d05fafa36f1f0688a06d164d4de103b1cb75cd35e78145aa283381bf147e1023", func := "orrery/orrerylaw07.PgcdRaw", spec := "pgcdRaw", unfollowed := true, recurses := true, named := ["math/bits.overflowError"], apart := false, narrowed := true }
def PgcdRawUptoSaid : Prop := pgcdRawUptoRow.holds Tryz.pinned (OpenSpec.upto pgcdRawSpec)

/-- 'orrerylaw07.PgcdShares', WHERE WHAT IT READS IS OF BULK AT MOST 1048576: true; the input reads as it did. -/
def pgcdSharesUptoRow : OpenClaim := { program := "ytomamliepbhegaagreat", sum := "d05fafa36f1f0688a06d164d4de103b1cb75cd35e78145aa283381bf147e1023", func := "orrery/orrerylaw07.PgcdShares", spec := "pgcdShares", unfollowed := true, recurses := true, named := ["math/bits.overflowError"], apart := false, narrowed := true }
def PgcdSharesUptoSaid : Prop := pgcdSharesUptoRow.holds Tryz.pinned (OpenSpec.upto pgcdSharesSpec)

end Rows
end Go.Proofs.YtomamliepbhegaaGreat
