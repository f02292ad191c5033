/- Layer 5's example -/
import Derived.Test.YtomamliepbhegaaGreatPolW
import Derived.Test.YtomamliepbhegaaGreatRatL
namespace Go.Proofs.YtomamliepbhegaaGreat
open Go.RowKit
open Go.RowKit Go.Proofs.YtomamliepbhegaaGreat.Sym
variable {n sz:Nat}{F:PH}{w:World}{v:Value}
theorem Rw.grow {w':World} (hF:∀i w w1 v,Kp w w1->F i w v->F i w1 v) (h:Rw sz F n w v) (g:w.grownBy w' none):Rw sz F n w' v:=by
 obtain ⟨p,c,rfl,hc,h1⟩:=h
 refine ⟨p,c,rfl,hc,fun i hi=>?_⟩
 obtain ⟨b,off,rfl,l,h2,h3,h4⟩:=h1 i hi
 exact ⟨b,off,rfl,l,h2,fun j u hj=>cell_grown g (h3 j u hj),hF _ _ _ _ (Kp.of g) h4⟩
theorem Rw.rO {w1:World} (hF:∀i w w1 v,Kp w w1->F i w v->F i w1 v) (h:Rw sz F n w v) (ho:Off (fun _=>False) w w1):Rw sz F n w1 v:=by
 have:=Rw.arg (Φ:=fun _=>Rw sz F n) (p:=0) (X:=fun _=>False) hF h rfl (fun _ h=>h.elim)
 exact this w1 ho
theorem three (a b c:Int) (w:World):Rw 1 (fun i _ v=>v = .agg #[.int .i64 (ae [a,b,c] i)]) 3 (w.alloc (.cells #[.int .i64 a,.int .i64 b,.int .i64 c] 3)) (.slice (some ⟨w.heap.size,0,none⟩) 3 3):=by
 refine ⟨_,_,rfl,Nat.le_refl _,fun i hi=>⟨_,_,rfl,[.int .i64 (ae [a,b,c] i)],rfl,fun j u hj=>?_,rfl⟩⟩
 cases j with
 | succ j=>simp at hj
 | zero=>
  simp only [List.getElem?_cons_zero,Option.some.injEq] at hj
  subst hj
  rw [World.cell?_alloc_new]
  have:i=0∨i=1∨i=2:=by omega
  rcases this with rfl | rfl | rfl <;> simp [ae]
end Go.Proofs.YtomamliepbhegaaGreat
namespace Go.Proofs.YtomamliepbhegaaGreat.Sym
open Go.RowKit
def tI:Op->Option (List Operand)
 | .binOp .rem _ x y _=>some [x,y]
 | _=>none
section
variable {P:Program}{Φ:PH}{p q x y:Nat}
theorem GZ {a b c:Int} (hp:∀w v,Φ p w v->v = .int .i64 a) (hb:0<b) (hx:Φ x=Ni c) (hc:Int.tmod a b=c:=by rfl):aj Φ P ⟨0,[.fact p,.lit (.ci .i64 b)],[oN x],.quiet tI⟩:=fun X w ac o xs _ hm ha=>by
 unfold tI at hm
 split at hm
 case h_2=>cases hm
 rename_i t y z yt ho
 simp only [Option.some.injEq] at hm
 subst hm
 subst hc
 refine ⟨.int .i64 (Int.tmod a b),w,mB ho (hp _ _ (ha.1 w (Off.refl _ _))) ha.2.1 ?_,bh w none,cL (fa _) hx fun _ _=>rfl⟩
 simp only [binOp]
 rw [if_neg (by simp)]
 unfold Op.intDiv
 simp only []
 rw [if_neg (by omega)];rfl
end
def hN (z:Nat->Int) (m:Nat) (u d:Int):Nat->Int
 | 0=>if m=0 then 0 else z (m-1)
 | j+1=>hN z m u d j*u+z (m-2-j)*d ^ (j+1)
section
variable {Φ:PH}{p q x x1 x2 n n0 K m k i N:Nat}{z:Nat->Int}
end
section
variable {Φ:PH}{p r x y n k kt kn:Nat}{z:Nat->Int}{q:Rat}{t t':Int}
end
section
variable {Φ:PH}{p r x y n k kt kn:Nat}{z:Nat->Int}{q:Rat}{t t':Int}
end
end Go.Proofs.YtomamliepbhegaaGreat.Sym
