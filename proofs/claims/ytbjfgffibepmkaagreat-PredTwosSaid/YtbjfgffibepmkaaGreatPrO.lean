/- The reference's Orient a -/
import Derived.Test.YtbjfgffibepmkaaGreatPrR
import Derived.Test.YtbjfgffibepmkaaGreatDtL
namespace Go.Proofs.YtbjfgffibepmkaaGreat.Sym
open Go.RowKit
variable {X0 X1 X2 Y0 Y1 Y2 x y z:List Int}{c k:Nat}{d0 d1 d2:Int}
theorem rg {Φ:PH}{x q:Nat}{G:WP} (hx:Φ x=G) (h:∀w v,Φ q w v->G w v) (X:Nat->Prop) (w:World) (v:Value) (hv:(Arg.parts (.one .s) [(0,0,q)]).ok Φ X w v):(Arg.fact x).ok Φ X w v:=fun w1 hw=>by
 rw [hx]
 exact h _ _ (hv.2 (0,0,q) (List.mem_singleton.2 rfl) w1 hw)
def cX (a b c:List Int) (k:Nat):List Int:=if k=0 then a else if k=1 then b else c
def da (a b c d:List Int) (k:Nat):List Int:=if k=0 then a else if k=1 then b else if k=2 then c else d
theorem rh  (h0:EOk c k x) (h1:EOk c k y) (h2:EOk c k z) (i:Nat):EOk c k (cX x y z i):=by
 unfold cX
 split
 ·exact h0
 ·split
  ·exact h1
  ·exact h2
theorem DD {u:List Int} (h0:EOk c k x) (h1:EOk c k y) (h2:EOk c k z) (h3:EOk c k u) (i:Nat):EOk c k (da x y z u i):=by
 unfold da
 split
 ·exact h0
 ·split
  ·exact h1
  ·split
   ·exact h2
   ·exact h3
def orM (X0 Y0 X1 Y1 X2 Y2:List Int) (d0 d1 d2:Int) (i:Nat):Nat->List Int:=if i=0 then cX X0 Y0 [d0] else if i=1 then cX X1 Y1 [d1] else cX X2 Y2 [d2]
theorem ue  (hk:k<=20) (hc:c<=20) (hX0:EOk c k X0) (hY0:EOk c k Y0) (hd0:EOk 1 k [d0]) (hX1:EOk c k X1) (hY1:EOk c k Y1) (hd1:EOk 1 k [d1]) (hX2:EOk c k X2) (hY2:EOk c k Y2) (hd2:EOk 1 k [d2]) (i j:Nat):EOk 100 100 (orM X0 Y0 X1 Y1 X2 Y2 d0 d1 d2 i j):=by
 have m:∀{A:List Int},EOk c k A->EOk 100 100 A:=fun h=>h.more (by omega) (by omega)
 have n:∀{A:List Int},EOk 1 k A->EOk 100 100 A:=fun h=>h.more (by omega) (by omega)
 unfold orM
 split
 ·exact rh (m hX0) (m hY0) (n hd0) j
 ·split
  ·exact rh (m hX1) (m hY1) (n hd1) j
  ·exact rh (m hX2) (m hY2) (n hd2) j
def lf (X Y:List Int) (d:Int):Nat->List Int:=da (ah X [d]) (ah Y [d]) (aP (ah X X) (ah Y Y)) (ah [d] [d])
theorem ri {X Y:List Int}{d:Int} (hk:k<=20) (hc:c<=20) (hX:EOk c k X) (hY:EOk c k Y) (hd:EOk 1 k [d]) (j:Nat):EOk 100 100 (lf X Y d j):=
 DD ((hX.mul hd).more (by omega) (by omega)) ((hY.mul hd).more (by omega) (by omega)) (((hX.mul hX).add (hY.mul hY)).more (by omega) (by omega)) ((hd.mul hd).more (by omega) (by omega)) j
def bN (X0 Y0 X1 Y1 X2 Y2 X3 Y3:List Int) (d0 d1 d2 d3:Int) (i:Nat):Nat->List Int:=if i=0 then lf X0 Y0 d0 else if i=1 then lf X1 Y1 d1 else if i=2 then lf X2 Y2 d2 else lf X3 Y3 d3
theorem uc {X3 Y3:List Int}{d3:Int} (hk:k<=20) (hc:c<=20) (hX0:EOk c k X0) (hY0:EOk c k Y0) (hd0:EOk 1 k [d0]) (hX1:EOk c k X1) (hY1:EOk c k Y1) (hd1:EOk 1 k [d1]) (hX2:EOk c k X2) (hY2:EOk c k Y2) (hd2:EOk 1 k [d2]) (hX3:EOk c k X3) (hY3:EOk c k Y3) (hd3:EOk 1 k [d3]) (i j:Nat):EOk 100 100 (bN X0 Y0 X1 Y1 X2 Y2 X3 Y3 d0 d1 d2 d3 i j):=by
 unfold bN
 split
 ·exact ri hk hc hX0 hY0 hd0 j
 ·split
  ·exact ri hk hc hX1 hY1 hd1 j
  ·split
   ·exact ri hk hc hX2 hY2 hd2 j
   ·exact ri hk hc hX3 hY3 hd3 j
end Go.Proofs.YtbjfgffibepmkaaGreat.Sym
