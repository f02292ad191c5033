/-
  No cell of these rows narrows 'for every input' (looked for: loops, veiled, ifaces, maps, wideKeys, modest, calm, conditions, laid).
  DERIVED. THE GIVEN ROWS OF THIS SEAT. 10 by the template 'for every input the law returns true; each argument reads behind the call as it read before'; 0 by the template 'total and deterministic' (their statements: YtkebkdmdhhpinaaTotals.lean).
  GIVEN WITH THE SEED: the statements are not yours to turn. If you find one false, say at which input.
  Laid BY PROGRAM, IN A SANDBOX (cutbox-rows.mjs): the forced cells as the released guide's own fill.sh prints them over the translation 6de3a78c3d1089a5… (all of the seat's roots in one cut). By AI agents, Wed Nov 11 2026. No macro, syntax, notation, axiom, sorry.
-/
import Derived.Test.YtkebkdmdhhpinaaChecked
import GoSem.Claim
import GoSem.ClaimJoined
import GoSem.ClaimMapViews
import Derived.JoinedTies
import Derived.KernelRfl
namespace Go.Proofs.Ytkebkdmdhhpinaa
/- THE CELL 'sum', in the pinned program and in every row, IS THE sha256 OF THE DUMP (.gsa) THAT YtkebkdmdhhpinaaProg.lean LOADS. Nothing in Lean hashes anything: it is a label: what it is worth is what the hold of that sum in a sandbox is worth. -/
noncomputable def Try.pinned : Pinned := { name := "ytkebkdmdhhpinaa", sum := "6de3a78c3d1089a54ff1b10bda557908b3d8b3856e827b108498ebc13155f948", checked := Try.checked }
namespace Rows
def none {H : Type} : Left H := { results := [], args := [] }

/-- 'orrerylaw01.LimbAdds': WHATEVER THE INPUT: true; the input reads as it did. -/
def limbAddsSpec : ChangeSpec := { name := "limbAdds", fn := fun _ => fun
  | [d1, d2] => { results := [.lit (.bool true)], args := [d1, d2] }
  | _ => none }
def limbAddsRow : OpenClaim := { program := "ytkebkdmdhhpinaa", sum := "6de3a78c3d1089a54ff1b10bda557908b3d8b3856e827b108498ebc13155f948", func := "orrery/orrerylaw01.LimbAdds", spec := "limbAdds", named := ["math/bits.overflowError"], apart := false }
def LimbAddsSaid : Prop := limbAddsRow.holds Try.pinned (OpenSpec.ofChange limbAddsSpec)

/-- ITS FALSE NEIGHBOUR: 'it returns false'. Refute it at one input. -/
def limbAddsWrong : ChangeSpec := { name := "limbAdds", fn := fun _ => fun
  | [d1, d2] => { results := [.lit (.bool false)], args := [d1, d2] }
  | _ => none }
def LimbAddsWrongFalsely : Prop := limbAddsRow.holds Try.pinned (OpenSpec.ofChange limbAddsWrong)

/-- 'orrerylaw01.LimbMuls': WHATEVER THE INPUT: true; the input reads as it did. -/
def limbMulsSpec : ChangeSpec := { name := "limbMuls", fn := fun _ => fun
  | [d1, d2] => { results := [.lit (.bool true)], args := [d1, d2] }
  | _ => none }
def limbMulsRow : OpenClaim := { program := "ytkebkdmdhhpinaa", sum := "6de3a78c3d1089a54ff1b10bda557908b3d8b3856e827b108498ebc13155f948", func := "orrery/orrerylaw01.LimbMuls", spec := "limbMuls", named := ["math/bits.overflowError"], apart := false }
def LimbMulsSaid : Prop := limbMulsRow.holds Try.pinned (OpenSpec.ofChange limbMulsSpec)

/-- ITS FALSE NEIGHBOUR: 'it returns false'. Refute it at one input. -/
def limbMulsWrong : ChangeSpec := { name := "limbMuls", fn := fun _ => fun
  | [d1, d2] => { results := [.lit (.bool false)], args := [d1, d2] }
  | _ => none }
def LimbMulsWrongFalsely : Prop := limbMulsRow.holds Try.pinned (OpenSpec.ofChange limbMulsWrong)

/-- 'orrerylaw01.LimbDivs': WHATEVER THE INPUT: true; the input reads as it did. -/
def limbDivsSpec : ChangeSpec := { name := "limbDivs", fn := fun _ => fun
  | [d1, d2] => { results := [.lit (.bool true)], args := [d1, d2] }
  | _ => none }
def limbDivsRow : OpenClaim := { program := "ytkebkdmdhhpinaa", sum := "6de3a78c3d1089a54ff1b10bda557908b3d8b3856e827b108498ebc13155f948", func := "orrery/orrerylaw01.LimbDivs", spec := "limbDivs", named := ["math/bits.overflowError"], apart := false }
def LimbDivsSaid : Prop := limbDivsRow.holds Try.pinned (OpenSpec.ofChange limbDivsSpec)

/-- ITS FALSE NEIGHBOUR: 'it returns false'. Refute it at one input. -/
def limbDivsWrong : ChangeSpec := { name := "limbDivs", fn := fun _ => fun
  | [d1, d2] => { results := [.lit (.bool false)], args := [d1, d2] }
  | _ => none }
def LimbDivsWrongFalsely : Prop := limbDivsRow.holds Try.pinned (OpenSpec.ofChange limbDivsWrong)

/-- 'orrerylaw01.LimbShifts': WHATEVER THE INPUT: true; the input reads as it did. -/
def limbShiftsSpec : ChangeSpec := { name := "limbShifts", fn := fun _ => fun
  | [d1, d2] => { results := [.lit (.bool true)], args := [d1, d2] }
  | _ => none }
def limbShiftsRow : OpenClaim := { program := "ytkebkdmdhhpinaa", sum := "6de3a78c3d1089a54ff1b10bda557908b3d8b3856e827b108498ebc13155f948", func := "orrery/orrerylaw01.LimbShifts", spec := "limbShifts", named := ["math/bits.overflowError"], apart := false }
def LimbShiftsSaid : Prop := limbShiftsRow.holds Try.pinned (OpenSpec.ofChange limbShiftsSpec)

/-- ITS FALSE NEIGHBOUR: 'it returns false'. Refute it at one input. -/
def limbShiftsWrong : ChangeSpec := { name := "limbShifts", fn := fun _ => fun
  | [d1, d2] => { results := [.lit (.bool false)], args := [d1, d2] }
  | _ => none }
def LimbShiftsWrongFalsely : Prop := limbShiftsRow.holds Try.pinned (OpenSpec.ofChange limbShiftsWrong)

/-- 'orrerylaw01.LimbSums': WHATEVER THE INPUT: true; the input reads as it did. -/
def limbSumsSpec : ChangeSpec := { name := "limbSums", fn := fun _ => fun
  | [d] => { results := [.lit (.bool true)], args := [d] }
  | _ => none }
def limbSumsRow : OpenClaim := { program := "ytkebkdmdhhpinaa", sum := "6de3a78c3d1089a54ff1b10bda557908b3d8b3856e827b108498ebc13155f948", func := "orrery/orrerylaw01.LimbSums", spec := "limbSums", named := ["math/bits.overflowError"], apart := false }
def LimbSumsSaid : Prop := limbSumsRow.holds Try.pinned (OpenSpec.ofChange limbSumsSpec)

/-- ITS FALSE NEIGHBOUR: 'it returns false'. Refute it at one input. -/
def limbSumsWrong : ChangeSpec := { name := "limbSums", fn := fun _ => fun
  | [d] => { results := [.lit (.bool false)], args := [d] }
  | _ => none }
def LimbSumsWrongFalsely : Prop := limbSumsRow.holds Try.pinned (OpenSpec.ofChange limbSumsWrong)

/-- 'orrerylaw01.LimbBack': WHATEVER THE INPUT: true; the input reads as it did. -/
def limbBackSpec : ChangeSpec := { name := "limbBack", fn := fun _ => fun
  | [d1, d2, d3, d4] => { results := [.lit (.bool true)], args := [d1, d2, d3, d4] }
  | _ => none }
def limbBackRow : OpenClaim := { program := "ytkebkdmdhhpinaa", sum := "6de3a78c3d1089a54ff1b10bda557908b3d8b3856e827b108498ebc13155f948", func := "orrery/orrerylaw01.LimbBack", spec := "limbBack", named := ["math/bits.overflowError"], apart := false }
def LimbBackSaid : Prop := limbBackRow.holds Try.pinned (OpenSpec.ofChange limbBackSpec)

/-- ITS FALSE NEIGHBOUR: 'it returns false'. Refute it at one input. -/
def limbBackWrong : ChangeSpec := { name := "limbBack", fn := fun _ => fun
  | [d1, d2, d3, d4] => { results := [.lit (.bool false)], args := [d1, d2, d3, d4] }
  | _ => none }
def LimbBackWrongFalsely : Prop := limbBackRow.holds Try.pinned (OpenSpec.ofChange limbBackWrong)

/-- 'orrerylaw01.LimbHard': WHATEVER THE INPUT: true; the input reads as it did. -/
def limbHardSpec : ChangeSpec := { name := "limbHard", fn := fun _ => fun
  | [d1, d2, d3, d4, d5] => { results := [.lit (.bool true)], args := [d1, d2, d3, d4, d5] }
  | _ => none }
def limbHardRow : OpenClaim := { program := "ytkebkdmdhhpinaa", sum := "6de3a78c3d1089a54ff1b10bda557908b3d8b3856e827b108498ebc13155f948", func := "orrery/orrerylaw01.LimbHard", spec := "limbHard", named := ["math/bits.overflowError"], apart := false }
def LimbHardSaid : Prop := limbHardRow.holds Try.pinned (OpenSpec.ofChange limbHardSpec)

/-- ITS FALSE NEIGHBOUR: 'it returns false'. Refute it at one input. -/
def limbHardWrong : ChangeSpec := { name := "limbHard", fn := fun _ => fun
  | [d1, d2, d3, d4, d5] => { results := [.lit (.bool false)], args := [d1, d2, d3, d4, d5] }
  | _ => none }
def LimbHardWrongFalsely : Prop := limbHardRow.holds Try.pinned (OpenSpec.ofChange limbHardWrong)

/-- 'orrerylaw01.LimbNoughts': WHATEVER THE INPUT: true; the input reads as it did. -/
def limbNoughtsSpec : ChangeSpec := { name := "limbNoughts", fn := fun _ => fun
  | [d1, d2, d3] => { results := [.lit (.bool true)], args := [d1, d2, d3] }
  | _ => none }
def limbNoughtsRow : OpenClaim := { program := "ytkebkdmdhhpinaa", sum := "6de3a78c3d1089a54ff1b10bda557908b3d8b3856e827b108498ebc13155f948", func := "orrery/orrerylaw01.LimbNoughts", spec := "limbNoughts", named := ["math/bits.overflowError"], apart := false }
def LimbNoughtsSaid : Prop := limbNoughtsRow.holds Try.pinned (OpenSpec.ofChange limbNoughtsSpec)

/-- ITS FALSE NEIGHBOUR: 'it returns false'. Refute it at one input. -/
def limbNoughtsWrong : ChangeSpec := { name := "limbNoughts", fn := fun _ => fun
  | [d1, d2, d3] => { results := [.lit (.bool false)], args := [d1, d2, d3] }
  | _ => none }
def LimbNoughtsWrongFalsely : Prop := limbNoughtsRow.holds Try.pinned (OpenSpec.ofChange limbNoughtsWrong)

/-- 'orrerylaw01.LimbOrders': WHATEVER THE INPUT: true; the input reads as it did. -/
def limbOrdersSpec : ChangeSpec := { name := "limbOrders", fn := fun _ => fun
  | [d1, d2, d3] => { results := [.lit (.bool true)], args := [d1, d2, d3] }
  | _ => none }
def limbOrdersRow : OpenClaim := { program := "ytkebkdmdhhpinaa", sum := "6de3a78c3d1089a54ff1b10bda557908b3d8b3856e827b108498ebc13155f948", func := "orrery/orrerylaw01.LimbOrders", spec := "limbOrders", named := ["math/bits.overflowError"], apart := false }
def LimbOrdersSaid : Prop := limbOrdersRow.holds Try.pinned (OpenSpec.ofChange limbOrdersSpec)

/-- ITS FALSE NEIGHBOUR: 'it returns false'. Refute it at one input. -/
def limbOrdersWrong : ChangeSpec := { name := "limbOrders", fn := fun _ => fun
  | [d1, d2, d3] => { results := [.lit (.bool false)], args := [d1, d2, d3] }
  | _ => none }
def LimbOrdersWrongFalsely : Prop := limbOrdersRow.holds Try.pinned (OpenSpec.ofChange limbOrdersWrong)

/-- 'orrerylaw01.LimbMore': WHATEVER THE INPUT: true; the input reads as it did. -/
def limbMoreSpec : ChangeSpec := { name := "limbMore", fn := fun _ => fun
  | [d1, d2, d3, d4] => { results := [.lit (.bool true)], args := [d1, d2, d3, d4] }
  | _ => none }
def limbMoreRow : OpenClaim := { program := "ytkebkdmdhhpinaa", sum := "6de3a78c3d1089a54ff1b10bda557908b3d8b3856e827b108498ebc13155f948", func := "orrery/orrerylaw01.LimbMore", spec := "limbMore", named := ["math/bits.overflowError"], apart := false }
def LimbMoreSaid : Prop := limbMoreRow.holds Try.pinned (OpenSpec.ofChange limbMoreSpec)

/-- ITS FALSE NEIGHBOUR: 'it returns false'. Refute it at one input. -/
def limbMoreWrong : ChangeSpec := { name := "limbMore", fn := fun _ => fun
  | [d1, d2, d3, d4] => { results := [.lit (.bool false)], args := [d1, d2, d3, d4] }
  | _ => none }
def LimbMoreWrongFalsely : Prop := limbMoreRow.holds Try.pinned (OpenSpec.ofChange limbMoreWrong)

/- THE SECOND FORM. 'bulk': how many values and letters a reading holds, each counted each time it is reached (what is shared counts as often as it is met; a slice's spare places count too). A statement '..UptoSaid' is the law's where the arguments, and the package variables that the reading takes, are together of bulk at most 1048576: NARROWER than '..Said'. Prove '..Said' where nothing that the law and all that it calls make is longer than what came in: it says more and counts as full. Else prove '..UptoSaid'. A law counts once. -/
mutual
def uptoBulk {H : Type} : DataW H → Nat
  | .lit (.string bytes) => bytes.length + 1
  | .lit _ => 1
  | .nil => 1
  | .ptr d => uptoBulk d + 1
  | .slice elems spare => uptoBulkAll elems + uptoBulkAll spare + 1
  | .agg parts => uptoBulkAll parts + 1
  | .iface _ d => uptoBulk d + 1
  | .map entries => uptoBulkEntries entries + 1
  | .held _ => 1
def uptoBulkAll {H : Type} : List (DataW H) → Nat
  | [] => 0
  | d :: r => uptoBulk d + uptoBulkAll r
def uptoBulkEntries {H : Type} : List (Lit × DataW H) → Nat
  | [] => 0
  | x :: r => uptoBulkEntry x + uptoBulkEntries r
def uptoBulkEntry {H : Type} : Lit × DataW H → Nat
  | (.string bytes, d) => bytes.length + uptoBulk d + 1
  | (_, d) => uptoBulk d + 1
 end
def uptoSmall : (H : Type) → List (DataW H) → Bool := fun _ ds => decide (uptoBulkAll ds ≤ 1048576)
def OpenSpec.upto (s : _root_.Go.ChangeSpec) : _root_.Go.OpenSpec := { _root_.Go.OpenSpec.ofChange s with cond := some uptoSmall }

/-- 'orrerylaw01.LimbAdds', WHERE WHAT IT READS IS OF BULK AT MOST 1048576: true; the input reads as it did. -/
def limbAddsUptoRow : OpenClaim := { program := "ytkebkdmdhhpinaa", sum := "6de3a78c3d1089a54ff1b10bda557908b3d8b3856e827b108498ebc13155f948", func := "orrery/orrerylaw01.LimbAdds", spec := "limbAdds", named := ["math/bits.overflowError"], apart := false, narrowed := true }
def LimbAddsUptoSaid : Prop := limbAddsUptoRow.holds Try.pinned (OpenSpec.upto limbAddsSpec)

/-- 'orrerylaw01.LimbMuls', WHERE WHAT IT READS IS OF BULK AT MOST 1048576: true; the input reads as it did. -/
def limbMulsUptoRow : OpenClaim := { program := "ytkebkdmdhhpinaa", sum := "6de3a78c3d1089a54ff1b10bda557908b3d8b3856e827b108498ebc13155f948", func := "orrery/orrerylaw01.LimbMuls", spec := "limbMuls", named := ["math/bits.overflowError"], apart := false, narrowed := true }
def LimbMulsUptoSaid : Prop := limbMulsUptoRow.holds Try.pinned (OpenSpec.upto limbMulsSpec)

/-- 'orrerylaw01.LimbDivs', WHERE WHAT IT READS IS OF BULK AT MOST 1048576: true; the input reads as it did. -/
def limbDivsUptoRow : OpenClaim := { program := "ytkebkdmdhhpinaa", sum := "6de3a78c3d1089a54ff1b10bda557908b3d8b3856e827b108498ebc13155f948", func := "orrery/orrerylaw01.LimbDivs", spec := "limbDivs", named := ["math/bits.overflowError"], apart := false, narrowed := true }
def LimbDivsUptoSaid : Prop := limbDivsUptoRow.holds Try.pinned (OpenSpec.upto limbDivsSpec)

/-- 'orrerylaw01.LimbShifts', WHERE WHAT IT READS IS OF BULK AT MOST 1048576: true; the input reads as it did. -/
def limbShiftsUptoRow : OpenClaim := { program := "ytkebkdmdhhpinaa", sum := "6de3a78c3d1089a54ff1b10bda557908b3d8b3856e827b108498ebc13155f948", func := "orrery/orrerylaw01.LimbShifts", spec := "limbShifts", named := ["math/bits.overflowError"], apart := false, narrowed := true }
def LimbShiftsUptoSaid : Prop := limbShiftsUptoRow.holds Try.pinned (OpenSpec.upto limbShiftsSpec)

/-- 'orrerylaw01.LimbSums', WHERE WHAT IT READS IS OF BULK AT MOST 1048576: true; the input reads as it did. -/
def limbSumsUptoRow : OpenClaim := { program := "ytkebkdmdhhpinaa", sum := "6de3a78c3d1089a54ff1b10bda557908b3d8b3856e827b108498ebc13155f948", func := "orrery/orrerylaw01.LimbSums", spec := "limbSums", named := ["math/bits.overflowError"], apart := false, narrowed := true }
def LimbSumsUptoSaid : Prop := limbSumsUptoRow.holds Try.pinned (OpenSpec.upto limbSumsSpec)

/-- 'orrerylaw01.LimbBack', WHERE WHAT IT READS IS OF BULK AT MOST 1048576: true; the input reads as it did. -/
def limbBackUptoRow : OpenClaim := { program := "ytkebkdmdhhpinaa", sum := "6de3a78c3d1089a54ff1b10bda557908b3d8b3856e827b108498ebc13155f948", func := "orrery/orrerylaw01.LimbBack", spec := "limbBack", named := ["math/bits.overflowError"], apart := false, narrowed := true }
def LimbBackUptoSaid : Prop := limbBackUptoRow.holds Try.pinned (OpenSpec.upto limbBackSpec)

/-- 'orrerylaw01.LimbHard', WHERE WHAT IT READS IS OF BULK AT MOST 1048576: true; the input reads as it did. -/
def limbHardUptoRow : OpenClaim := { program := "ytkebkdmdhhpinaa", sum := "6de3a78c3d1089a54ff1b10bda557908b3d8b3856e827b108498ebc13155f948", func := "orrery/orrerylaw01.LimbHard", spec := "limbHard", named := ["math/bits.overflowError"], apart := false, narrowed := true }
def LimbHardUptoSaid : Prop := limbHardUptoRow.holds Try.pinned (OpenSpec.upto limbHardSpec)

/-- 'orrerylaw01.LimbNoughts', WHERE WHAT IT READS IS OF BULK AT MOST 1048576: true; the input reads as it did. -/
def limbNoughtsUptoRow : OpenClaim := { program := "ytkebkdmdhhpinaa", sum := "6de3a78c3d1089a54ff1b10bda557908b3d8b3856e827b108498ebc13155f948", func := "orrery/orrerylaw01.LimbNoughts", spec := "limbNoughts", named := ["math/bits.overflowError"], apart := false, narrowed := true }
def LimbNoughtsUptoSaid : Prop := limbNoughtsUptoRow.holds Try.pinned (OpenSpec.upto limbNoughtsSpec)

/-- 'orrerylaw01.LimbOrders', WHERE WHAT IT READS IS OF BULK AT MOST 1048576: true; the input reads as it did. -/
def limbOrdersUptoRow : OpenClaim := { program := "ytkebkdmdhhpinaa", sum := "6de3a78c3d1089a54ff1b10bda557908b3d8b3856e827b108498ebc13155f948", func := "orrery/orrerylaw01.LimbOrders", spec := "limbOrders", named := ["math/bits.overflowError"], apart := false, narrowed := true }
def LimbOrdersUptoSaid : Prop := limbOrdersUptoRow.holds Try.pinned (OpenSpec.upto limbOrdersSpec)

/-- 'orrerylaw01.LimbMore', WHERE WHAT IT READS IS OF BULK AT MOST 1048576: true; the input reads as it did. -/
def limbMoreUptoRow : OpenClaim := { program := "ytkebkdmdhhpinaa", sum := "6de3a78c3d1089a54ff1b10bda557908b3d8b3856e827b108498ebc13155f948", func := "orrery/orrerylaw01.LimbMore", spec := "limbMore", named := ["math/bits.overflowError"], apart := false, narrowed := true }
def LimbMoreUptoSaid : Prop := limbMoreUptoRow.holds Try.pinned (OpenSpec.upto limbMoreSpec)

end Rows
end Go.Proofs.Ytkebkdmdhhpinaa
