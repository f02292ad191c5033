/- The reference's predicat -/
import Derived.Test.YtbjfgffibepmkaaGreatPrR
import Derived.Test.YtbjfgffibepmkaaGreatDtL
namespace Go.Proofs.YtbjfgffibepmkaaGreat.Sym
open Go.RowKit
variable {X X0 X1 X2 X3 Y Y0 Y1 Y2 Y3:List Int}{d d0 d1 d2 d3:Int}{c k p x:Nat}{Φ:PH}{T:TypeId}
theorem fG {X' Y':List Int}{d':Int} (hX:EOk c k X) (hY:EOk c k Y) (hd:EOk 1 k [d]) (hX':EOk c k X') (hY':EOk c k Y') (hd':EOk 1 k [d']):EOk (c+1+(c+1)) (k+k+c+1+(k+k+c+1)+(c+1)+1) (apL X Y X' Y' d d'):=((dJ hX hX' hd hd').mul (dJ hX hX' hd hd')).add ((dJ hY hY' hd hd').mul (dJ hY hY' hd hd'))
def SB (X0 Y0 X1 Y1 X2 Y2 X3 Y3:List Int) (d0 d1 d2 d3:Int) (k:Nat):List WP:=[Rw 2 (Nf (ae X0) k) X0.length,Rw 2 (Nf (ae Y0) k) Y0.length,Nw d0 k,Rw 2 (Nf (ae X1) k) X1.length,Rw 2 (Nf (ae Y1) k) Y1.length,Nw d1 k,Rw 2 (Nf (ae X2) k) X2.length,Rw 2 (Nf (ae Y2) k) Y2.length,Nw d2 k,Rw 2 (Nf (ae X3) k) X3.length,Rw 2 (Nf (ae Y3) k) Y3.length,Nw d3 k,fun w v=>Rw 4 (fun ι w v=>af w v ((((ae X0) ι:Int):Rat)) 100) X0.length w v,fun w v=>Rw 4 (fun ι w v=>af w v ((((ae Y0) ι:Int):Rat)) 100) Y0.length w v,fun w v=>Rw 4 (fun ι w v=>af w v ((((ae ([d0])) ι:Int):Rat)) 100) 1 w v,fun w v=>Rw 4 (fun ι w v=>af w v ((((ae X1) ι:Int):Rat)) 100) X1.length w v,fun w v=>Rw 4 (fun ι w v=>af w v ((((ae Y1) ι:Int):Rat)) 100) Y1.length w v,fun w v=>Rw 4 (fun ι w v=>af w v ((((ae ([d1])) ι:Int):Rat)) 100) 1 w v,fun w v=>Rw 4 (fun ι w v=>af w v ((((ae X2) ι:Int):Rat)) 100) X2.length w v,fun w v=>Rw 4 (fun ι w v=>af w v ((((ae Y2) ι:Int):Rat)) 100) Y2.length w v,fun w v=>Rw 4 (fun ι w v=>af w v ((((ae ([d2])) ι:Int):Rat)) 100) 1 w v,fun w v=>Rw 4 (fun ι w v=>af w v ((((ae X3) ι:Int):Rat)) 100) X3.length w v,fun w v=>Rw 4 (fun ι w v=>af w v ((((ae Y3) ι:Int):Rat)) 100) Y3.length w v,fun w v=>Rw 4 (fun ι w v=>af w v ((((ae ([d3])) ι:Int):Rat)) 100) 1 w v,fun w v=>Rw 4 (fun ι w v=>af w v ((((ae (ah [d0] [d1])) ι:Int):Rat)) 2000) ((ah [d0] [d1]).length) w v,fun w v=>Rw 4 (fun ι w v=>af w v ((((ae (ah [d2] [d3])) ι:Int):Rat)) 2000) ((ah [d2] [d3]).length) w v,fun w v=>Rw 4 (fun ι w v=>af w v ((((ae (apL X2 Y2 X3 Y3 d2 d3)) ι:Int):Rat)) 2000) ((apL X2 Y2 X3 Y3 d2 d3).length) w v,fun w v=>Rw 4 (fun ι w v=>af w v ((((ae (ah (ah [d0] [d1]) (ah [d0] [d1]))) ι:Int):Rat)) 2000) ((ah (ah [d0] [d1]) (ah [d0] [d1])).length) w v,fun w v=>Rw 4 (fun ι w v=>af w v ((((ae (ah (apL X2 Y2 X3 Y3 d2 d3) (ah (ah [d0] [d1]) (ah [d0] [d1])))) ι:Int):Rat)) 2000) ((ah (apL X2 Y2 X3 Y3 d2 d3) (ah (ah [d0] [d1]) (ah [d0] [d1]))).length) w v,fun w v=>Rw 4 (fun ι w v=>af w v ((((ae (apL X0 Y0 X1 Y1 d0 d1)) ι:Int):Rat)) 2000) ((apL X0 Y0 X1 Y1 d0 d1).length) w v,fun w v=>Rw 4 (fun ι w v=>af w v ((((ae (ah (ah [d2] [d3]) (ah [d2] [d3]))) ι:Int):Rat)) 2000) ((ah (ah [d2] [d3]) (ah [d2] [d3])).length) w v,fun w v=>Rw 4 (fun ι w v=>af w v ((((ae (ah (apL X0 Y0 X1 Y1 d0 d1) (ah (ah [d2] [d3]) (ah [d2] [d3])))) ι:Int):Rat)) 2000) ((ah (apL X0 Y0 X1 Y1 d0 d1) (ah (ah [d2] [d3]) (ah [d2] [d3]))).length) w v,fun w v=>Rw 4 (fun ι w v=>af w v ((((ae (aP (ah (apL X2 Y2 X3 Y3 d2 d3) (ah (ah [d0] [d1]) (ah [d0] [d1]))) (bK (ah (apL X0 Y0 X1 Y1 d0 d1) (ah (ah [d2] [d3]) (ah [d2] [d3])))))) ι:Int):Rat)) 2000) ((aP (ah (apL X2 Y2 X3 Y3 d2 d3) (ah (ah [d0] [d1]) (ah [d0] [d1]))) (bK (ah (apL X0 Y0 X1 Y1 d0 d1) (ah (ah [d2] [d3]) (ah [d2] [d3]))))).length) w v]
def SC:List Step:=[.base ⟨50,[.parts cR [(2,1,0),(3,1,1),(4,2,2)]],[oS 12,oS 13,oS 14],true⟩,.base ⟨50,[.parts cR [(2,1,3),(3,1,4),(4,2,5)]],[oS 15,oS 16,oS 17],true⟩,.base ⟨50,[.parts cR [(2,1,6),(3,1,7),(4,2,8)]],[oS 18,oS 19,oS 20],true⟩,.base ⟨50,[.parts cR [(2,1,9),(3,1,10),(4,2,11)]],[oS 21,oS 22,oS 23],true⟩,.base ⟨52,[14,17],[oS 24],false⟩,.base ⟨52,[20,23],[oS 25],false⟩,.base ⟨61,[.parts cR [(2,1,6),(3,1,7),(4,2,8)],.parts cR [(2,1,9),(3,1,10),(4,2,11)]],[oS 26],false⟩,.base ⟨52,[24,24],[oS 27],false⟩,.base ⟨52,[26,27],[oS 28],false⟩,.base ⟨61,[.parts cR [(2,1,0),(3,1,1),(4,2,2)],.parts cR [(2,1,3),(3,1,4),(4,2,5)]],[oS 29],false⟩,.base ⟨52,[25,25],[oS 30],false⟩,.base ⟨52,[29,30],[oS 31],false⟩,.base ⟨51,[28,31],[oS 32],false⟩]
def SD:List Out:=[⟨.agg [.s,.s,.s,.s,.b,.s],[(2,1,0),(3,1,1),(4,2,2)]⟩,⟨.agg [.s,.s,.s,.s,.b,.s],[(2,1,3),(3,1,4),(4,2,5)]⟩,⟨.agg [.s,.s,.s,.s,.b,.s],[(2,1,6),(3,1,7),(4,2,8)]⟩,⟨.agg [.s,.s,.s,.s,.b,.s],[(2,1,9),(3,1,10),(4,2,11)]⟩]
set_option maxRecDepth 100000 in
theorem SE  (hk:k<=20) (hc:c<=20) (hX0:EOk c k X0) (hY0:EOk c k Y0) (hd0:EOk 1 k [d0]) (hX1:EOk c k X1) (hY1:EOk c k Y1) (hd1:EOk 1 k [d1]) (hX2:EOk c k X2) (hY2:EOk c k Y2) (hd2:EOk 1 k [d2]) (hX3:EOk c k X3) (hY3:EOk c k Y3) (hd3:EOk 1 k [d3]):aj (ph (SB X0 Y0 X1 Y1 X2 Y2 X3 Y3 d0 d1 d2 d3 k)) Tryz.prog ⟨23,[.parts (.agg [.s,.s,.s,.s,.b,.s]) [(2,1,0),(3,1,1),(4,2,2)],.parts (.agg [.s,.s,.s,.s,.b,.s]) [(2,1,3),(3,1,4),(4,2,5)],.parts (.agg [.s,.s,.s,.s,.b,.s]) [(2,1,6),(3,1,7),(4,2,8)],.parts (.agg [.s,.s,.s,.s,.b,.s]) [(2,1,9),(3,1,10),(4,2,11)]],[oS 32],false⟩:=aQ SD [oS 32] SC Tryz.func23 (by kernel_rfl) (lB (fR (X:=X0) (Y:=Y0) (d:=d0) (c:=c) (k:=k) ad ad ad rfl rfl rfl hk hc hX0 hY0) (lB (fR (X:=X1) (Y:=Y1) (d:=d1) (c:=c) (k:=k) ad ad ad rfl rfl rfl hk hc hX1 hY1) (lB (fR (X:=X2) (Y:=Y2) (d:=d2) (c:=c) (k:=k) ad ad ad rfl rfl rfl hk hc hX2 hY2) (lB (fR (X:=X3) (Y:=Y3) (d:=d3) (c:=c) (k:=k) ad ad ad rfl rfl rfl hk hc hX3 hY3) (lB (cH (A:=[d0]) (B:=[d1]) (k:=100) (l:=100) (K:=2000) ad ad rfl hd0 hd1) (lB (cH (A:=[d2]) (B:=[d3]) (k:=100) (l:=100) (K:=2000) ad ad rfl hd2 hd3) (lB (Ds (X:=X2) (Y:=Y2) (d:=d2) (X':=X3) (Y':=Y3) (d':=d3) (c:=c) (k:=k) ad ad ad ad ad ad rfl hk hc hX2 hY2 hd2 hX3 hY3 hd3) (lB (cH (A:=(ah [d0] [d1])) (B:=(ah [d0] [d1])) (k:=2000) (l:=2000) (K:=2000) ad ad rfl (hd0.mul hd1) (hd0.mul hd1)) (lB (cH (A:=(apL X2 Y2 X3 Y3 d2 d3)) (B:=(ah (ah [d0] [d1]) (ah [d0] [d1]))) (k:=2000) (l:=2000) (K:=2000) ad ad rfl (fG hX2 hY2 hd2 hX3 hY3 hd3) ((hd0.mul hd1).mul (hd0.mul hd1))) (lB (Ds (X:=X0) (Y:=Y0) (d:=d0) (X':=X1) (Y':=Y1) (d':=d1) (c:=c) (k:=k) ad ad ad ad ad ad rfl hk hc hX0 hY0 hd0 hX1 hY1 hd1) (lB (cH (A:=(ah [d2] [d3])) (B:=(ah [d2] [d3])) (k:=2000) (l:=2000) (K:=2000) ad ad rfl (hd2.mul hd3) (hd2.mul hd3)) (lB (cH (A:=(apL X0 Y0 X1 Y1 d0 d1)) (B:=(ah (ah [d2] [d3]) (ah [d2] [d3]))) (k:=2000) (l:=2000) (K:=2000) ad ad rfl (fG hX0 hY0 hd0 hX1 hY1 hd1) ((hd2.mul hd3).mul (hd2.mul hd3))) (lB (vk (A:=(ah (apL X2 Y2 X3 Y3 d2 d3) (ah (ah [d0] [d1]) (ah [d0] [d1])))) (B:=(ah (apL X0 Y0 X1 Y1 d0 d1) (ah (ah [d2] [d3]) (ah [d2] [d3])))) (k:=2000) (l:=2000) (K:=2000) ad ad rfl (by have:=((fG hX2 hY2 hd2 hX3 hY3 hd3).mul ((hd0.mul hd1).mul (hd0.mul hd1))).len;omega) (by have:=((fG hX0 hY0 hd0 hX1 hY1 hd1).mul ((hd2.mul hd3).mul (hd2.mul hd3))).len;omega) ((fG hX0 hY0 hd0 hX1 hY1 hd1).mul ((hd2.mul hd3).mul (hd2.mul hd3))).nrm (fun i=>(((fG hX0 hY0 hd0 hX1 hY1 hd1).mul ((hd2.mul hd3).mul (hd2.mul hd3))).bd i).more (by omega)) (fun i=>((((fG hX2 hY2 hd2 hX3 hY3 hd3).mul ((hd0.mul hd1).mul (hd0.mul hd1))).add ((fG hX0 hY0 hd0 hX1 hY1 hd1).mul ((hd2.mul hd3).mul (hd2.mul hd3))).neg).bd i).more (by omega))) aD)))))))))))))
  (aM [.parts (.agg [.s,.s,.s,.s,.b,.s]) [(2,1,0),(3,1,1),(4,2,2)],.parts (.agg [.s,.s,.s,.s,.b,.s]) [(2,1,3),(3,1,4),(4,2,5)],.parts (.agg [.s,.s,.s,.s,.b,.s]) [(2,1,6),(3,1,7),(4,2,8)],.parts (.agg [.s,.s,.s,.s,.b,.s]) [(2,1,9),(3,1,10),(4,2,11)]] ⟨trivial,trivial,trivial,trivial,trivial⟩) aV
def gH (X0 Y0 X1 Y1 X2 Y2 X3 Y3:List Int) (d0 d1 d2 d3:Int):List Int:=aP (ah (apL X2 Y2 X3 Y3 d2 d3) (ah (ah [d0] [d1]) (ah [d0] [d1]))) (bK (ah (apL X0 Y0 X1 Y1 d0 d1) (ah (ah [d2] [d3]) (ah [d2] [d3]))))
theorem MG {p0 q0 r0 p1 q1 r1 p2 q2 r2 p3 q3 r3:Nat} (hp0:∀w v,Φ p0 w v->Rw 2 (Nf (ae X0) k) X0.length w v) (hq0:∀w v,Φ q0 w v->Rw 2 (Nf (ae Y0) k) Y0.length w v) (hr0:∀w v,Φ r0 w v->ak w v d0 k) (hp1:∀w v,Φ p1 w v->Rw 2 (Nf (ae X1) k) X1.length w v) (hq1:∀w v,Φ q1 w v->Rw 2 (Nf (ae Y1) k) Y1.length w v) (hr1:∀w v,Φ r1 w v->ak w v d1 k) (hp2:∀w v,Φ p2 w v->Rw 2 (Nf (ae X2) k) X2.length w v) (hq2:∀w v,Φ q2 w v->Rw 2 (Nf (ae Y2) k) Y2.length w v) (hr2:∀w v,Φ r2 w v->ak w v d2 k) (hp3:∀w v,Φ p3 w v->Rw 2 (Nf (ae X3) k) X3.length w v) (hq3:∀w v,Φ q3 w v->Rw 2 (Nf (ae Y3) k) Y3.length w v) (hr3:∀w v,Φ r3 w v->ak w v d3 k) (hx:Φ x=fun w v=>Rw 4 (fun i w v=>af w v ((ae (gH X0 Y0 X1 Y1 X2 Y2 X3 Y3 d0 d1 d2 d3) i:Int):Rat) 2000) (gH X0 Y0 X1 Y1 X2 Y2 X3 Y3 d0 d1 d2 d3).length w v) (hX0:EOk c k X0) (hY0:EOk c k Y0) (hd0:EOk 1 k [d0]) (hX1:EOk c k X1) (hY1:EOk c k Y1) (hd1:EOk 1 k [d1]) (hX2:EOk c k X2) (hY2:EOk c k Y2) (hd2:EOk 1 k [d2]) (hX3:EOk c k X3) (hY3:EOk c k Y3) (hd3:EOk 1 k [d3]) (hk:k<=20:=by omega) (hc:c<=20:=by omega):aj Φ Tryz.prog ⟨23,[.parts cR [(2,1,p0),(3,1,q0),(4,2,r0)],.parts cR [(2,1,p1),(3,1,q1),(4,2,r1)],.parts cR [(2,1,p2),(3,1,q2),(4,2,r2)],.parts cR [(2,1,p3),(3,1,q3),(4,2,r3)]],[oS x],false⟩:=
 aT (SE hk hc hX0 hY0 hd0 hX1 hY1 hd1 hX2 hY2 hd2 hX3 hY3 hd3) ⟨⟨rfl,⟨rfl,rfl,hp0⟩,⟨rfl,rfl,hq0⟩,⟨rfl,rfl,hr0⟩,trivial⟩,⟨rfl,⟨rfl,rfl,hp1⟩,⟨rfl,rfl,hq1⟩,⟨rfl,rfl,hr1⟩,trivial⟩,⟨rfl,⟨rfl,rfl,hp2⟩,⟨rfl,rfl,hq2⟩,⟨rfl,rfl,hr2⟩,trivial⟩,⟨rfl,⟨rfl,rfl,hp3⟩,⟨rfl,rfl,hq3⟩,⟨rfl,rfl,hr3⟩,trivial⟩,trivial⟩ ⟨⟨rfl,⟨rfl,rfl,fun _ _ h=>hx▸h⟩,trivial⟩,trivial⟩
def cE (X Y:List Int) (d:Int) (k:Nat) (w:World) (v:Value):Prop:=∃a b x y n s,fW [.s,.s,.s,.s,.b,.s] [a,b,x,y,n,s]∧v = .agg #[a,b,x,y,n,s]∧Rw 2 (Nf (ae X) k) X.length w x∧Rw 2 (Nf (ae Y) k) Y.length w y∧ak w (.agg #[n,s]) d k
theorem lc {q r:Nat} (hp:∀w v,Φ p w v->Rw 2 (Nf (ae X) k) X.length w v) (hq:∀w v,Φ q w v->Rw 2 (Nf (ae Y) k) Y.length w v) (hr:∀w v,Φ r w v->ak w v d k) (hx:Φ x=cE X Y d k) (Z:Nat->Prop) (w:World) (v:Value) (h:(Arg.parts cR [(2,1,p),(3,1,q),(4,2,r)]).ok Φ Z w v):(Arg.fact x).ok Φ Z w v:=fun w1 hw=>by
 rw [hx]
 obtain ⟨⟨vs,rfl,hvs⟩,hf⟩:=h
 match vs,hvs with
 | [a,b,x,y,n,s],hvs=>
  obtain ⟨⟨_,_,_,rfl⟩,⟨_,_,_,rfl⟩,⟨_,_,_,rfl⟩,⟨_,_,_,rfl⟩,⟨_,rfl⟩,⟨_,_,_,rfl⟩,_⟩:=id hvs
  refine ⟨_,_,_,_,_,_,hvs,rfl,?_,?_,?_⟩
  ·have:=hp _ _ (hf (2,1,p) (by simp) w1 hw)
   simpa [bn,cellsOf,Value.cells] using this
  ·have:=hq _ _ (hf (3,1,q) (by simp) w1 hw)
   simpa [bn,cellsOf,Value.cells] using this
  ·have:=hr _ _ (hf (4,2,r) (by simp) w1 hw)
   simpa [bn,cellsOf,Value.cells] using this
theorem cE.SA {w:World}{v:Value} (h:cE X Y d k w v):v.cells.size=6∧cE X Y d k w (.agg v.cells):=by
 obtain ⟨a,b,x,y,n,s,hvs,rfl,h1,h2,h3⟩:=h
 obtain ⟨⟨_,_,_,rfl⟩,⟨_,_,_,rfl⟩,⟨_,_,_,rfl⟩,⟨_,_,_,rfl⟩,⟨_,rfl⟩,⟨_,_,_,rfl⟩,_⟩:=id hvs
 exact ⟨by simp [Value.cells],⟨_,_,_,_,_,_,hvs,by simp [Value.cells],h1,h2,h3⟩⟩
theorem ld {y z:Nat} (hp:∀w v,Φ p w v->Ptr 6 (cE X Y d k) w v) (hx:Φ x=Rw 2 (Nf (ae X) k) X.length) (hy:Φ y=Rw 2 (Nf (ae Y) k) Y.length) (hd:Φ z=Nw d k) (hT:gC Tryz.prog T=some true:=by kernel_rfl) (hz:dg Tryz.prog T=some 6:=by kernel_rfl) :
  aj Φ Tryz.prog ⟨0,[.fact p],[⟨cR,[(2,1,x),(3,1,y),(4,2,z)]⟩],.quiet (aO T)⟩:=fun Z w ac o xs _ hm ha=>by
 unfold aO at hm
 split at hm
 case h_2=>cases hm
 rename_i t u ho
 split at hm
 case isFalse=>cases hm
 rename_i ht
 subst ht
 simp only [Option.some.injEq] at hm
 subst hm
 have A:∀w1,Off Z w w1->Ptr 6 (cE X Y d k) w1 (ac.eval u):=fun w1 hw=>hp _ _ (ha.1 w1 hw)
 obtain ⟨b,off,hv,l,h1,h2,h3⟩:=A w (Off.refl _ _)
 obtain ⟨g,hg,hZ,hlt⟩:=jE (sz:=6) (n:=1) (F:=fun _=>cE X Y d k) (X:=Z) (w:=w) (s:=.slice (some ⟨b,off,none⟩) 1 1) (z0:=.bool true) (fun i w l hl _=>by
  obtain ⟨a,b',x,y,n,s,hvs,e,-⟩:=hl
  obtain rfl:l = [a,b',x,y,n,s]:=by simpa using e
  obtain ⟨⟨_,_,_,rfl⟩,-⟩:=hvs
  exact ⟨_,rfl,fun h=>(by cases h),fun _ _ h=>by cases h⟩) (fun w1 hw=>by
  obtain ⟨b',off',e,l',g1,g2,g3⟩:=A w1 hw
  rw [hv] at e
  simp only [Value.pointer.injEq,Option.some.injEq,Addr.mk.injEq,and_true] at e
  obtain ⟨rfl,rfl⟩:=e
  refine ⟨_,_,rfl,Nat.le_refl _,fun i hi=>⟨b,off,rfl,l',g1,fun j u hj=>?_,g3⟩⟩
  obtain rfl:i=0:=by omega
  rw [Nat.zero_mul,Nat.add_zero];exact g2 j u hj)
 simp only [blk,Option.some.injEq] at hg
 subst hg
 have key:∀w1,Off Z w w1->cE X Y d k w1 (.agg l.toArray):=fun w1 hw=>by
  obtain ⟨b',off',e,l',g1,g2,g3⟩:=A w1 hw
  rw [hv] at e
  simp only [Value.pointer.injEq,Option.some.injEq,Addr.mk.injEq,and_true] at e
  obtain ⟨rfl,rfl⟩:=e
  have:l'=l:=by
   refine List.ext_getElem (by rw [g1,h1]) fun j hj hj'=>?_
   have e1:=g2 j _ (List.getElem?_eq_getElem hj)
   rw [World.cell?_of_block (hw.2 b hlt hZ),h2 j _ (List.getElem?_eq_getElem hj')] at e1
   exact (Option.some.inj e1).symm
  rwa [this] at g3
 refine ⟨.agg l.toArray,w,?_,bt w none,⟨⟨?_,fun r hr w1 hw=>?_⟩,trivial⟩⟩
 ·have hrun:=run_loadCells_list (P:=Tryz.prog) w ⟨b,off,none⟩ l (fun j u hj=>by rw [gV];exact h2 j u hj)
  rw [h1] at hrun
  unfold execOp
  simp [ho,hv,Instr.loadAt,Instr.sureAddr,loadVar,gD hT,run_sizeOf hz,hrun]
 ·obtain ⟨a,b',x,y,n,s,hvs,e,-⟩:=h3
  obtain rfl:l = [a,b',x,y,n,s]:=by simpa using e
  exact ⟨_,rfl,hvs⟩
 ·obtain ⟨a,b',x',y',n,s,hvs,e,k1,k2,k3⟩:=key w1 hw
  obtain rfl:l = [a,b',x',y',n,s]:=by simpa using e
  obtain ⟨⟨_,_,_,rfl⟩,⟨_,_,_,rfl⟩,⟨_,_,_,rfl⟩,⟨_,_,_,rfl⟩,⟨_,rfl⟩,⟨_,_,_,rfl⟩,_⟩:=hvs
  simp only [List.mem_cons,List.not_mem_nil,or_false] at hr
  rcases hr with rfl | rfl | rfl
  ·show Φ x w1 _;rw [hx];simpa [bn,cellsOf,Value.cells] using k1
  ·show Φ y w1 _;rw [hy];simpa [bn,cellsOf,Value.cells] using k2
  ·show Φ z w1 _;rw [hd];simpa [bn,cellsOf,Value.cells] using k3
theorem Dr {n:Nat}{ps:List Nat}{J:List Nat}{X Y:Nat->List Int}{d:Nat->Int}{e:TypeId} (hT:Tryz.prog.underlying T=some (.slice e)) (hl:ps.length=n) (hF:∀i p,ps[i]?=some p->∀w v,Φ p w v->cE (X i) (Y i) (d i) k w v) (hx:Φ x=Rw 6 (fun i=>cE (X i) (Y i) (d i) k) n) (hz:dg Tryz.prog e=some 6:=by kernel_rfl) (h0:zeroAt Tryz.prog e=some (.agg [.nl,.nl,.nl,.nl,.cb false,.nl]):=by kernel_rfl) (hn:0<n∧n<=1000:=by omega) :
  aj Φ Tryz.prog ⟨0,.any :: ps.map Arg.fact,[oS x],.fresh J (cu T n)⟩:=
 eP (ps:=ps) (sz:=6) hT (hz:=hz) (h0:=h0) (hn:=hn) hl (fun i p h w v hv=>(hF i p h w v hv).SA) hx
end Go.Proofs.YtbjfgffibepmkaaGreat.Sym
