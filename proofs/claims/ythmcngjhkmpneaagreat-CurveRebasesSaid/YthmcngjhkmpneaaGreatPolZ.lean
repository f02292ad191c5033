/- Layer 5's example. poly.value, Sign, Ends. -/
import Derived.Test.YthmcngjhkmpneaaGreatPolX
import Derived.Test.YthmcngjhkmpneaaGreatPolW
import Derived.Test.YthmcngjhkmpneaaGreatRatL
namespace Go.Proofs.YthmcngjhkmpneaaGreat
open Go.RowKit
open Go.RowKit Go.Proofs.YthmcngjhkmpneaaGreat.Sym
theorem Rw.grow {sz n:Nat}{F:PH}{w w':World}{v:Value} (hF:∀i w w1 v,Kp w w1->F i w v->F i w1 v) (h:Rw sz F n w v) (g:w.grownBy w' none):Rw sz F n w' v:=by
 obtain ⟨p,c,rfl,hc,h1⟩:=h
 refine ⟨p,c,rfl,hc,fun i hi=>?_⟩
 obtain ⟨b,off,rfl,l,h2,h3,h4⟩:=h1 i hi
 exact ⟨b,off,rfl,l,h2,fun j u hj=>cell_grown g (h3 j u hj),hF _ _ _ _ (Kp.of g) h4⟩
theorem Rw.l8 {sz n:Nat}{F:PH}{w w1:World}{v:Value} (hF:∀i w w1 v,Kp w w1->F i w v->F i w1 v) (h:Rw sz F n w v) (ho:Off (fun _=>False) w w1):Rw sz F n w1 v:=by
 have:=Rw.arg (Φ:=fun _=>Rw sz F n) (p:=0) (X:=fun _=>False) hF h rfl (fun _ h=>h.elim)
 exact this w1 ho
theorem three (a b c:Int) (w:World):Rw 1 (fun i _ v=>v = .agg #[.int .i64 (an [a,b,c] i)]) 3 (w.alloc (.cells #[.int .i64 a,.int .i64 b,.int .i64 c] 3)) (.slice (some ⟨w.heap.size,0,none⟩) 3 3):=by
 refine ⟨_,_,rfl,Nat.le_refl _,fun i hi=>⟨_,_,rfl,[.int .i64 (an [a,b,c] i)],rfl,fun j u hj=>?_,rfl⟩⟩
 cases j with
 | succ j=>simp at hj
 | zero=>
  simp only [List.getElem?_cons_zero,Option.some.injEq] at hj
  subst hj
  rw [World.cell?_alloc_new]
  have:i=0∨i=1∨i=2:=by omega
  rcases this with rfl | rfl | rfl <;> simp [an]
end Go.Proofs.YthmcngjhkmpneaaGreat
namespace Go.Proofs.YthmcngjhkmpneaaGreat.Sym
open Go.RowKit
section
variable {P:Program}{Φ:PH}{p q x y:Nat}
end
def hN (z:Nat->Int) (m:Nat) (u d:Int):Nat->Int
 | 0=>if m=0 then 0 else z (m-1)
 | j+1=>hN z m u d j*u+z (m-2-j)*d ^ (j+1)
section
variable {Φ:PH}{p q x x1 x2 n n0 K m k i N:Nat}{z:Nat->Int}
end
section
variable {Φ:PH}{p r x y n k kt kn:Nat}{z:Nat->Int}{q:Rat}{t t':Int}
end
section
variable {Φ:PH}{p r x y n k kt kn:Nat}{z:Nat->Int}{q:Rat}{t t':Int}
end
end Go.Proofs.YthmcngjhkmpneaaGreat.Sym
