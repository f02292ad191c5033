/- A rational that came in -/
import Derived.Lib.SmallJoins
import Derived.Lay
import Derived.MakeChecks
import Derived.Stop.Joined
import Derived.SevenTiedAt
import Derived.Test.YtbjfgffibepmkaaGreatPolW
namespace Go.Proofs.YtbjfgffibepmkaaGreat
open Go.RowKit
open Go.ChangeShapes Go.WideShapes Go.ChangeAt Go.RowKit
theorem Tryz.cells24:Tryz.prog.cellsOf 27=2:=by kernel_rfl
theorem Tryz.cells4:Tryz.prog.cellsOf 4=1:=by kernel_rfl
theorem Tryz.cells22:Tryz.prog.cellsOf 25=1:=by kernel_rfl
section
variable {H:Type}{enc:TypeId×Value->H}
set_option maxRecDepth 100000 in
theorem sW {W:World}{base:Nat}{held:Bool}{x y:Value}{fuel:Nat}{z:DataW H×List MemPlace}
  (h:DataW.trod enc Tryz.prog W base (fun _=>true) held fuel 27 [x,y]=some z):∃b xs,x = .bool b∧Sl W .u32 y xs∧All 4294967296 xs:=by
 obtain ⟨y0,y1,n,-,-,h0,h1⟩:=trod_struct2 Tryz.underlying27 h
 simp only [Tryz.cells4,Tryz.cells22,List.drop_zero,List.take_succ_cons,List.take_zero,List.drop_succ_cons] at h0 h1
 obtain ⟨b,e0,-⟩:=DataW.trod_bool Tryz.underlying4 h0
 obtain rfl:x = .bool b:=by simpa using e0
 obtain ⟨xs,h2,h3⟩:=Wp (W:=W) Tryz.underlying25 Tryz.underlying119 h1
 exact ⟨b,xs,rfl,h2,h3⟩
end
end Go.Proofs.YtbjfgffibepmkaaGreat
namespace Go.Proofs.YtbjfgffibepmkaaGreat.Sym
open Go.RowKit
section
variable {Φ:PH}
end
section
variable {Φ:PH}
theorem Arr.is {sz n:Nat}{F:PH}{w:World}{v:Value} (h:Arr sz F n w v):(bW.one .s).is v:=by
 obtain ⟨p,c,rfl,_⟩:=h
 exact ⟨⟨_,_,_,rfl⟩,fun _ h=>by cases h⟩
end
section
variable (z y:Int)(ez ey:Nat->Int)
end
section
variable {Φ:PH}{p q x x1 x2 n K:Nat}{z y:Int}{ez ey:Nat->Int}{t:Rat}
end
end Go.Proofs.YtbjfgffibepmkaaGreat.Sym
namespace Go.Proofs.YtbjfgffibepmkaaGreat
open Go.RowKit Go.Proofs.YtbjfgffibepmkaaGreat.Sym
variable {n sz:Nat}{F:PH}{w:World}{v:Value}
theorem Rw.grow {w':World} (hF:∀i w w1 v,Kp w w1->F i w v->F i w1 v) (h:Rw sz F n w v) (g:w.grownBy w' none):Rw sz F n w' v:=by
 obtain ⟨p,c,rfl,hc,h1⟩:=h
 refine ⟨p,c,rfl,hc,fun i hi=>?_⟩
 obtain ⟨b,off,rfl,l,h2,h3,h4⟩:=h1 i hi
 exact ⟨b,off,rfl,l,h2,fun j u hj=>cell_grown g (h3 j u hj),hF _ _ _ _ (Kp.of g) h4⟩
theorem Rw.ja {w1:World} (hF:∀i w w1 v,Kp w w1->F i w v->F i w1 v) (h:Rw sz F n w v) (ho:Off (fun _=>False) w w1):Rw sz F n w1 v:=by
 have:=Rw.arg (Φ:=fun _=>Rw sz F n) (p:=0) (X:=fun _=>False) hF h rfl (fun _ h=>h.elim)
 exact this w1 ho
theorem three (a b c:Int) (w:World):Rw 1 (fun i _ v=>v = .agg #[.int .i64 (ae [a,b,c] i)]) 3 (w.alloc (.cells #[.int .i64 a,.int .i64 b,.int .i64 c] 3)) (.slice (some ⟨w.heap.size,0,none⟩) 3 3):=by
 refine ⟨_,_,rfl,Nat.le_refl _,fun i hi=>⟨_,_,rfl,[.int .i64 (ae [a,b,c] i)],rfl,fun j u hj=>?_,rfl⟩⟩
 cases j with
 | succ j=>simp at hj
 | zero=>
  simp only [List.getElem?_cons_zero,Option.some.injEq] at hj
  subst hj
  rw [World.cell?_alloc_new]
  have:i=0∨i=1∨i=2:=by omega
  rcases this with rfl | rfl | rfl <;> simp [ae]
end Go.Proofs.YtbjfgffibepmkaaGreat
namespace Go.Proofs.YtbjfgffibepmkaaGreat.Sym
open Go.RowKit
def mn:Op->Option (List Operand)
 | .binOp .rem _ x y _=>some [x,y]
 | _=>none
section
variable {P:Program}{Φ:PH}{p q x y:Nat}
theorem qi {a b c:Int} (hp:∀w v,Φ p w v->v = .int .i64 a) (hb:0<b) (hx:Φ x=Ni c) (hc:Int.tmod a b=c:=by rfl):aj Φ P ⟨0,[.fact p,.lit (.ci .i64 b)],[oN x],.quiet mn⟩:=fun X w ac o xs _ hm ha=>by
 unfold mn at hm
 split at hm
 case h_2=>cases hm
 rename_i t y z yt ho
 simp only [Option.some.injEq] at hm
 subst hm
 subst hc
 refine ⟨.int .i64 (Int.tmod a b),w,mu ho (hp _ _ (ha.1 w (Off.refl _ _))) ha.2.1 ?_,bt w none,cP (dc _) hx fun _ _=>rfl⟩
 simp only [binOp]
 rw [if_neg (by simp)]
 unfold Op.intDiv
 simp only []
 rw [if_neg (by omega)];rfl
end
def hN (z:Nat->Int) (m:Nat) (u d:Int):Nat->Int
 | 0=>if m=0 then 0 else z (m-1)
 | j+1=>hN z m u d j*u+z (m-2-j)*d ^ (j+1)
section
variable {Φ:PH}{p q x x1 x2 n n0 K m k i N:Nat}{z:Nat->Int}
end
section
variable {Φ:PH}{p r x y n k kt kn:Nat}{z:Nat->Int}{q:Rat}{t t':Int}
end
section
variable {Φ:PH}{p r x y n k kt kn:Nat}{z:Nat->Int}{q:Rat}{t t':Int}
end
theorem Bd.add1 {A B i:Nat} (h:Bd A i) (k:Bd B i):Bd (A+B) (i+1):=by
 unfold Bd at *
 rw [Nat.pow_succ]
 generalize 4294967296 ^ i=M at *
 omega
theorem Bd.sR {A k:Nat} (h:Bd A k):∀j,Bd (A ^ j) (j*k+1)
 | 0=>by rw [Nat.pow_zero,Nat.zero_mul];show 1<_;decide
 | j+1=>by
  rw [Nat.pow_succ,Nat.succ_mul,show j*k+k+1=(j*k+1)+k by omega]
  exact Bd.mul (Bd.sR h j) h
end Go.Proofs.YtbjfgffibepmkaaGreat.Sym
