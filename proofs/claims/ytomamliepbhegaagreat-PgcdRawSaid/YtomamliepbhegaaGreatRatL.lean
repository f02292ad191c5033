/- A rational that came in -/
import Derived.Test.YtomamliepbhegaaGreatRefV
import Derived.Lib.SmallJoins
import Derived.Lay
import Derived.MakeChecks
import Derived.Stop.Joined
import Derived.SevenTiedAt
namespace Go.Proofs.YtomamliepbhegaaGreat
open Go.RowKit
open Go.ChangeShapes Go.WideShapes Go.ChangeAt Go.RowKit
theorem Tryz.cells24:Tryz.prog.cellsOf 57=2:=by kernel_rfl
theorem Tryz.cells4:Tryz.prog.cellsOf 4=1:=by kernel_rfl
theorem Tryz.cells22:Tryz.prog.cellsOf 55=1:=by kernel_rfl
section
variable {H:Type}{enc:TypeId×Value->H}
set_option maxRecDepth 100000 in
theorem aau {W:World}{base:Nat}{held:Bool}{x y:Value}{fuel:Nat}{z:DataW H×List MemPlace}
  (h:DataW.trod enc Tryz.prog W base (fun _=>true) held fuel 57 [x,y]=some z):∃b xs,x = .bool b∧Sl W .u32 y xs∧All 4294967296 xs:=by
 obtain ⟨y0,y1,n,-,-,h0,h1⟩:=trod_struct2 Tryz.underlying57 h
 simp only [Tryz.cells4,Tryz.cells22,List.drop_zero,List.take_succ_cons,List.take_zero,List.drop_succ_cons] at h0 h1
 obtain ⟨b,e0,-⟩:=DataW.trod_bool Tryz.underlying4 h0
 obtain rfl:x = .bool b:=by simpa using e0
 obtain ⟨xs,h2,h3⟩:=acG (W:=W) Tryz.underlying55 Tryz.underlying105 h1
 exact ⟨b,xs,rfl,h2,h3⟩
end
end Go.Proofs.YtomamliepbhegaaGreat
namespace Go.Proofs.YtomamliepbhegaaGreat.Sym
open Go.RowKit
section
variable {Φ:PH}
theorem Bp {p q x x1 x2 i j:Nat}{z:Rat}{y:Rat}{t:Rat} (hp:∀w v,Φ p w v->al w v z i) (hq:∀w v,Φ q w v->al w v y j) (hx:Φ x=Dw t (2*(i+j)+2)) (hx1:Φ x1=fun w v=>af w v t.num (2*(i+j)+2)) (hx2:Φ x2=fun w v=>af w v (t.den:Int) (2*(i+j)+2)) (h0':y≠0) (ht:z / y=t) (hk:i+j<=50000:=by omega):aj Φ Tryz.prog ⟨49,[.fact p,.fact q],[⟨sS,[(0,0,x),(0,2,x1),(2,2,x2)]⟩],false⟩:=
 fk fun _ _ _ _ h0 h1=>(acH (hp _ _ (get h0)) (hq _ _ (get h1)) hk h0' ht).mono fun _ _ h=>ng hx hx1 hx2 h
end
section
variable {Φ:PH}
theorem Arr.is {sz n:Nat}{F:PH}{w:World}{v:Value} (h:Arr sz F n w v):(bK.one .s).is v:=by
 obtain ⟨p,c,rfl,_⟩:=h
 exact ⟨⟨_,_,_,rfl⟩,fun _ h=>by cases h⟩
end
section
variable (z y:Int)(ez ey:Nat->Int)
end
section
variable {Φ:PH}{p q x x1 x2 n K:Nat}{z y:Int}{ez ey:Nat->Int}{t:Rat}
end
end Go.Proofs.YtomamliepbhegaaGreat.Sym
