/- Ratio's greatest of three. -/
import Derived.Test.YtbokonbbokhjlaaGreatSymQ
namespace Go.Proofs.YtbokonbbokhjlaaGreat.Sym
open Go.RowKit
section
variable {Φ:PH}
theorem Arr.is {sz n:Nat}{F:PH}{w:World}{v:Value} (h:Arr sz F n w v):(bm.one .s).is v:=by
 obtain ⟨p,c,rfl,_⟩:=h
 exact ⟨⟨_,_,_,rfl⟩,fun _ h=>by cases h⟩
end
end Go.Proofs.YtbokonbbokhjlaaGreat.Sym
