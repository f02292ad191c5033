/- A rational that came in; the variables that a row of layer 4 lists. Contracts of chapter 4 and of the reference's rationals as calls of the symbolic walk. Ratio's greatest of three. Ratio's greatest and sum of any number: their loops by what holds at each round's head. -/
import Derived.Test.YtomamliepbhegaaRowKit
import Derived.Test.YtomamliepbhegaaRefV
import Derived.Lib.SmallJoins
import Derived.Lay
import Derived.MakeChecks
import Derived.Stop.Joined
import Derived.SevenTiedAt
namespace Go.Proofs.Ytomamliepbhegaa
open Go.RowKit
open Go.ChangeShapes Go.WideShapes Go.ChangeAt Go.RowKit
theorem Try.cells24:Try.prog.cellsOf 66=2:=by kernel_rfl
theorem Try.cells4:Try.prog.cellsOf 4=1:=by kernel_rfl
theorem Try.cells22:Try.prog.cellsOf 64=1:=by kernel_rfl
section
variable {H:Type}{enc:TypeId×Value->H}
set_option maxRecDepth 100000 in
theorem zD {W:World}{base:Nat}{held:Bool}{x y:Value}{fuel:Nat}{z:DataW H×List MemPlace}
  (h:DataW.trod enc Try.prog W base (fun _=>true) held fuel 66 [x,y]=some z):∃b xs,x = .bool b∧Sl W .u32 y xs∧All 4294967296 xs:=by
 obtain ⟨y0,y1,n,-,-,h0,h1⟩:=trod_struct2 Try.underlying66 h
 simp only [Try.cells4,Try.cells22,List.drop_zero,List.take_succ_cons,List.take_zero,List.drop_succ_cons] at h0 h1
 obtain ⟨b,e0,-⟩:=DataW.trod_bool Try.underlying4 h0
 obtain rfl:x = .bool b:=by simpa using e0
 obtain ⟨xs,h2,h3⟩:=Gv (W:=W) Try.underlying64 Try.underlying85 (by kernel_rfl) h1
 exact ⟨b,xs,rfl,h2,h3⟩
end
end Go.Proofs.Ytomamliepbhegaa
namespace Go.Proofs.Ytomamliepbhegaa.Sym
open Go.RowKit
section
variable {Φ:PH}
end
section
variable {Φ:PH}
theorem Arr.is {sz n:Nat}{F:PH}{w:World}{v:Value} (h:Arr sz F n w v):(bn.one .s).is v:=by
 obtain ⟨p,c,rfl,_⟩:=h
 exact ⟨⟨_,_,_,rfl⟩,fun _ h=>by cases h⟩
end
section
variable (z y:Int) (ez ey:Nat->Int)
end
section
variable {Φ:PH}{p q x x1 x2 n K:Nat}{z y:Int}{ez ey:Nat->Int}{t:Rat}
end
end Go.Proofs.Ytomamliepbhegaa.Sym
