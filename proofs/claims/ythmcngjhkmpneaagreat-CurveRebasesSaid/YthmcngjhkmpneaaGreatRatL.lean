/- A rational that came in; the variables that a row of layer 4 lists. Contracts of chapter 4 and of the reference's rationals as calls of the symbolic walk. Ratio's greatest of three. Ratio's greatest and sum of any number: their loops by what holds at each round's head. -/
import Derived.Test.YthmcngjhkmpneaaGreatRowKit
import Derived.Test.YthmcngjhkmpneaaGreatRefV
import Derived.Lib.SmallJoins
import Derived.Lay
import Derived.MakeChecks
import Derived.Stop.Joined
import Derived.SevenTiedAt
set_option maxRecDepth 100000
namespace Go.Proofs.YthmcngjhkmpneaaGreat
open Go.RowKit
open Go.ChangeShapes Go.WideShapes Go.ChangeAt Go.RowKit
theorem Tryz.cells24:Tryz.prog.cellsOf 51=2:=by kernel_rfl
theorem Tryz.cells46:Tryz.prog.cellsOf 55=4:=by kernel_rfl
theorem Tryz.cells4:Tryz.prog.cellsOf 4=1:=by kernel_rfl
theorem Tryz.cells22:Tryz.prog.cellsOf 49=1:=by kernel_rfl
section
variable {H:Type}{enc:TypeId×Value->H}
theorem mz {W:World}{base:Nat}{held:Bool}{x y:Value}{fuel:Nat}{z:DataW H×List MemPlace}
  (h:DataW.trod enc Tryz.prog W base (fun _=>true) held fuel 51 [x,y]=some z):∃b xs,x = .bool b∧Sl W .u32 y xs∧All 4294967296 xs:=by
 obtain ⟨y0,y1,n,-,-,h0,h1⟩:=trod_struct2 Tryz.underlying51 h
 simp only [Tryz.cells4,Tryz.cells22,List.drop_zero,List.take_succ_cons,List.take_zero,List.drop_succ_cons] at h0 h1
 obtain ⟨b,e0,-⟩:=DataW.trod_bool Tryz.underlying4 h0
 obtain rfl:x = .bool b:=by simpa using e0
 obtain ⟨xs,h2,h3⟩:=Ox (W:=W) Tryz.underlying49 Tryz.underlying152 (by kernel_rfl) h1
 exact ⟨b,xs,rfl,h2,h3⟩
theorem Fc {W:World}{base base':Nat}{held:Bool}{v:Value}{d:DataW H}{ps:List MemPlace}
  (h:DataW.Trod enc Tryz.prog W base (fun _=>true) held 55 v d ps) (hv:Value.okWide Tryz.prog W .any base' 55 v):∃b s b' s' xs ys,v = .agg #[.bool b,s,.bool b',s']∧Sl W .u32 s xs∧All 4294967296 xs∧Sl W .u32 s' ys∧All 4294967296 ys:=by
 obtain ⟨cs,rfl,hsz⟩:=okWide_struct Tryz.underlying55 hv
 obtain ⟨c0,c1,c2,c3,rfl⟩:=Joins.array4 (hsz.trans Tryz.cells46)
 obtain ⟨fuel,hf⟩:=h
 obtain ⟨y0,y1,n,-,-,h0,h1⟩:=trod_struct2 Tryz.underlying55 hf
 simp only [Tryz.cells24,Value.cells,List.drop_zero,List.take_succ_cons,List.take_zero,List.drop_succ_cons] at h0 h1
 obtain ⟨b,xs,rfl,h2,h3⟩:=mz h0
 obtain ⟨b',ys,rfl,h4,h5⟩:=mz h1
 exact ⟨b,c1,b',c3,xs,ys,rfl,h2,h3,h4,h5⟩
end
end Go.Proofs.YthmcngjhkmpneaaGreat
namespace Go.Proofs.YthmcngjhkmpneaaGreat.Sym
open Go.RowKit
section
variable {Φ:PH}
theorem BL {p x x1 x2 i:Nat}{z:Rat}{t:Rat} (hp:∀w v,Φ p w v->bS w v z i) (hx:Φ x=fun w v=>bk w v t (i+2)) (hx1:Φ x1=Nw t.num (i+2)) (hx2:Φ x2=Nw (t.den:Int) (i+2)) (hk:i<=100000) (ht : -z=t):ai Φ Tryz.prog ⟨79,[.fact p],[⟨qS,[(0,0,x),(0,2,x1),(2,2,x2)]⟩],false⟩:=
 da fun _ _ _ h0=>(MP (hp _ _ (get h0)) hk ht).mono fun _ _ h=>pp hx hx1 hx2 h
end
section
variable {Φ:PH}
theorem Arr.is {sz n:Nat}{F:PH}{w:World}{v:Value} (h:Arr sz F n w v):(aR.one .s).is v:=by
 obtain ⟨p,c,rfl,_⟩:=h
 exact ⟨⟨_,_,_,rfl⟩,fun _ h=>by cases h⟩
end
section
variable (z y:Int) (ez ey:Nat->Int)
end
section
variable {Φ:PH}{p q x x1 x2 n K:Nat}{z y:Int}{ez ey:Nat->Int}{t:Rat}
end
end Go.Proofs.YthmcngjhkmpneaaGreat.Sym
