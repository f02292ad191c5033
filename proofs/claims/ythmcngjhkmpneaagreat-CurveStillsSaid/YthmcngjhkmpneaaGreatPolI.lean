/- poly.Scale: a function value that has captured a number; products of small numbers. -/
import Derived.Test.YthmcngjhkmpneaaGreatPolH
import Derived.Test.YthmcngjhkmpneaaGreatPolL
set_option maxRecDepth 100000
namespace Go.Proofs.YthmcngjhkmpneaaGreat.Sym
open Go.RowKit
theorem Ptr.is {sz:Nat}{F:WP}{w:World}{v:Value} (h:Ptr sz F w v):(aR.one .p).is v:=by
 obtain ⟨b,o,rfl,_⟩:=h
 exact ⟨⟨_,rfl⟩,fun _ h=>by cases h⟩
def gO (f:FuncId) (sz:Nat) (G:WP) (w:World) (v:Value):Prop:=∃p,v = .func (.func f) #[] #[p]∧Ptr sz G w p
theorem gO.is {f:FuncId}{sz:Nat}{G:WP}{w:World}{v:Value} (h:gO f sz G w v):(aR.one .fv).is v:=by
 obtain ⟨p,rfl,_⟩:=h
 exact ⟨⟨_,_,rfl⟩,fun _ h=>by cases h⟩
def qR (T:TypeId):Op->Option (List Operand)
 | .box t x=>if t=T then some [x] else none
 | _=>none
def qT (F:FuncId):Op->Option (List Operand)
 | .makeFunc (.func f) first captured=>if f=F∧first = #[] then (match captured.toList with | [x]=>some [x] | _=>none) else none
 | _=>none
section
variable {P:Program}{Φ:PH}{p q x j k:Nat}{z a b:Int}
theorem Ir {T:TypeId}{J:List Nat} (hp:∀w v,Φ p w v->aj w v z k) (hx:Φ x=Ptr 2 (Iw z k)):ai Φ P ⟨0,[.fact p],[oP x],.fresh J (qR T)⟩:=fun X w ac o xs hX hm ha=>by
 unfold qR at hm
 split at hm
 case h_2=>cases hm
 rename_i t y ho
 split at hm
 case isFalse=>cases hm
 rename_i ht
 subst ht
 simp only [Option.some.injEq] at hm
 subst hm
 obtain ⟨b0,s0,X0,hv,_⟩:=hp _ _ (ha.1 w (Off.refl _ _))
 have hg:=World.grownBy_alloc w (.cells #[.bool b0,s0] t) none
 refine ⟨.pointer (some ⟨w.heap.size,0,none⟩),w.alloc (.cells #[.bool b0,s0] t),?_,hg,cH ⟨⟨_,rfl⟩,fun _ h=>by cases h⟩ hx fun w1 hw=>?_⟩
 ·unfold execOp
  simp [ho,hv,Instr.box,newVar,newRow,Value.cells]
 ·refine ⟨_,_,rfl,[.bool b0,s0],rfl,fun i u hi=>?_,?_⟩
  ·have hbk:=hw.2 w.heap.size (by simp) (fun h=>by have:=hX _ h;omega)
   rw [World.cell?_of_block hbk,World.cell?_alloc_new]
   simpa using hi
  ·exact hv▸hp _ _ (ha.1 w1 ((Off.grown hg).trans hw fun _ _ h=>h))
theorem Iu {f:FuncId}{sz:Nat}{G:WP} (hp:∀w v,Φ p w v->Ptr sz G w v) (hx:Φ x=gO f sz G):ai Φ P ⟨0,[.fact p],[⟨.one .fv,[(0,0,x)]⟩],.quiet (qT f)⟩:=fun X w ac o xs _ hm ha=>by
 unfold qT at hm
 split at hm
 case h_2=>cases hm
 rename_i g first captured ho
 split at hm
 case isFalse=>cases hm
 rename_i hc
 obtain ⟨rfl,rfl⟩:=hc
 split at hm
 case h_2=>cases hm
 rename_i y hy
 simp only [Option.some.injEq] at hm
 subst hm
 have hcap:captured = #[y]:=by apply Array.ext';simpa using hy
 subst hcap
 refine ⟨.func (.func g) #[] #[ac.eval y],w,?_,aQ w none,cH ⟨⟨_,_,rfl⟩,fun _ h=>by cases h⟩ hx fun w1 hw=>⟨_,rfl,hp _ _ (ha.1 w1 hw)⟩⟩
 unfold execOp
 simp [ho,Instr.makeFunc]
end
def xg (z y:Int) (k l:Nat):List WP:=[Iw z k,Ptr 2 (Iw y l),Iw y l,Nw (z*y) (k+l)]
def Iv:List Step:=[bQ [.fact 1] [oI 2] (aS 51),
   .base ⟨44,[.fact 0,.fact 2],[oI 3],false⟩]
def Ix:List Out:=[oI 0,oP 1]
theorem Iy {z y:Int}{k l:Nat} (hk:k+l<=400000):ai (ph (xg z y k l)) Tryz.prog ⟨169,[.fact 0,.fact 1],[oI 3],false⟩:=by
 skip
 exact bg Ix [oI 3] Iv Tryz.func169 (by kernel_rfl)
  (lB (bK (sz:=2) (F:=Iw y l) (by kernel_rfl) (by kernel_rfl) ad (fun _ _ _ g h=>aj.kp h g) (fun _ _ h=>aj.is h) rfl)
   (lB (jr iI iI rfl (by omega) rfl)
   aC))
  (aK [.fact 0 (.agg [.b,.s]),.fact 1 (.one (.p))] ⟨fun _ _ h=>aj.is h,fun _ _ h=>Ptr.is (sz:=2) (F:=Iw y l) h,trivial⟩) bh
theorem Iz {Φ:PH}{J:List Nat}{f p x k l:Nat}{z y t:Int} (hf:∀w v,Φ f w v->gO 169 2 (Iw y l) w v) (hp:∀w v,Φ p w v->aj w v z k) (hx:Φ x=Nw t (k+l)) (hk:k+l<=400000) (ht:z*y=t):ai Φ Tryz.prog ⟨169,[.fact f,.fact p],[⟨iS,[(0,0,x)]⟩],.k7 J⟩:=fun X w u vs hX ha=>by
 obtain ⟨q,rfl,_⟩:=hf _ _ (ha.1 w (Off.refl _ _))
 match vs,ha.2 with
 | [v],h2=>
  refine ⟨#[q],rfl,(Iy (z:=z) (y:=y) hk X w [v,q] hX ⟨fun w1 hw=>hp _ _ (h2.1 w1 hw),fun w1 hw=>?_,trivial⟩).mono fun e w' ⟨hg,us,he,ho⟩=>⟨hg,us,he,?_⟩⟩
  ·obtain ⟨q',e,h3⟩:=hf _ _ (ha.1 w1 hw)
   simp only [Value.func.injEq,Array.mk.injEq,List.cons.injEq,and_true,true_and] at e
   exact e▸h3
  ·exact iD.ok (Φ:=Φ) (Ψ:=ph (xg z y k l)) (l:=[⟨.agg [.b,.s],[(0,0,3)]⟩]) (m:=[⟨iS,[(0,0,x)]⟩]) ⟨⟨rfl,⟨rfl,rfl,fun _ _ h=>hx▸ht▸h⟩,trivial⟩,trivial⟩ ho
def qU (z:Nat->Int) (y:Int) (n k l:Nat):List WP:=[Rw 2 (If z k) n,gO 169 2 (Iw y l),Nz n,fun w v=>am 2 51 (fun ι w v=>ak w v ((upto 0 (fun i=>z i*y)) ι) (k+l)) n w v,Nz n,fun w v=>am 2 51 (fun ι w v=>ak w v ((upto n (fun i=>z i*y)) ι) (k+l)) n w v,fun w v=>Rw 2 (fun ι w v=>ak w v ((upto n (fun i=>z i*y)) ι) (k+l)) (tl (upto n (fun i=>z i*y)) n) w v]
def IA (z:Nat->Int) (y:Int) (n k l:Nat) (j:Nat):List WP:=[Nz j,fun w v=>am 2 51 (fun ι w v=>ak w v ((upto j (fun i=>z i*y)) ι) (k+l)) n w v,fun _ _=>True,Ptr 2 (Iw (z j) k),Iw (z j) k,Nw ((z j)*y) (k+l),At 2,Ptr 2 (Nw ((upto j (fun i=>z i*y)) j) (k+l)),fun w v=>am 2 51 (fun ι w v=>ak w v ((upto (j+1) (fun i=>z i*y)) ι) (k+l)) n w v,Nz (j+1)]
def xh:bj:=⟨[0,1,4,8,9,10,11,12],[(.slot 13,.i),(.slot 5,.s)],[(.one 0,7),(.one 1,.bZ [1] 8),(.one 1,.lo 1)],[.closed (.one (.ci .i64 0)),.frm 3,.frm 0],7,[(8,5)]⟩
def xi:List Step:=[bQ [.fact 7,.fact 4] oT (au .lss),
   bQ [.fact 0,.fact 7] [oP 10] (aO 28),
   bQ [.fact 10] [oI 11] (aS 51),
   .base ⟨169,[.fact 1,.fact 11],[oI 12],.k7 []⟩,
   .base ⟨0,[.fact 8,.fact 7],[oP 14],.joint [1] 13 (aO 28)⟩,
   .base ⟨0,[.fact 8,.fact 7,.any,.fact 12],[oS 15],.put [] 1 0 13 (eN 51 (.tmp 18) (.tmp 19))⟩,
   bQ [.fact 7,.lit (.ci .i64 1)] [oN 16] (au .add)]
def IB:List Step:=[bQ [.fact 7,.fact 4] oF (au .lss)]
def IC:List Step:=[bQ [.fact 0] [oN 2] (aI 28),
   .base ⟨0,[.fact 2,.fact 2],[oS 3],.loose [] 1 0 (ff 28)⟩,
   bQ [.fact 0] [oN 4] (aI 28),
   .loop xh [(xi,[.frm 16,.frm 15,.frm 0])] IB,
   .base ⟨66,[.fact 5],[oS 6],.c9 [1] false⟩]
def ID:List Out:=[oS 0,⟨.one (.fv),[(0,0,1)]⟩]
theorem IE {z:Nat->Int}{y:Int}{n k l:Nat} (hn:n<=1000000) (hk:k+l<=400000):ai (ph (qU z y n k l)) Tryz.prog ⟨135,[.fact 0,.fact 1],[oS 6],false⟩:=by
 skip
 exact bg ID [oS 6] IC Tryz.func135 (by kernel_rfl)
  (lB (a9 (F:=(If z k)) Tryz.underlying28 ad rfl)
   (lB (rh (n:=n) (F:=(fun ι w v=>ak w v ((upto 0 (fun i=>z i*y)) ι) (k+l))) ad (by omega) (fun i w=>ak.zero w (k+l)) rfl)
   (lB (a9 (F:=(If z k)) Tryz.underlying28 ad rfl)
   (bN (counted n (fun j=>ph (qU z y n k l ++ IA z y n k l j)) (fun _=>0) (fun j p hp=>bO (show p<(qU z y n k l).length from hp)) ⟨fun _=>rfl,ad,bp,trivial⟩ (fun j hj=>by
   skip
   exact ⟨(xi,[.frm 16,.frm 15,.frm 0]),rfl,⟨ad,ad,bp,trivial⟩,(lB (cA ad ad)
   (lB (b6 (i:=j) (F:=(If z k)) Tryz.underlying28 (by kernel_rfl) ad ad (by omega) rfl)
   (lB (bK (sz:=2) (F:=Iw (z j) k) (by kernel_rfl) (by kernel_rfl) ad (fun _ _ _ g h=>aj.kp h g) (fun _ _ h=>aj.is h) rfl)
   (lB (Iz ad iI rfl (by omega) rfl)
   (lB (dY (i:=j) (sz:=2) (n:=n) (F:=(fun ι w v=>ak w v ((upto j (fun i=>z i*y)) ι) (k+l))) Tryz.underlying28 (by kernel_rfl) (fun _ _ h=>am.arr h) ad (by omega) rfl rfl)
   (lB (fB (i:=j) (n:=n) (F:=(fun ι w v=>ak w v ((upto j (fun i=>z i*y)) ι) (k+l))) (F':=(fun ι w v=>ak w v ((upto (j+1) (fun i=>z i*y)) ι) (k+l))) (G:=Nw ((z j)*y) (k+l)) (.tmp 18) (.tmp 19) (by kernel_rfl) ad ad (by omega) ad rfl (fun _ _ h=>ak.cells h) (fun _ _ _ _ g h=>ak.kp h g) (fun _ _ _ g h=>ak.kp h g) (fun i w v hi h=>by rw [kH hi];exact h) (fun w v h=>h.eq (kJ j (fun i=>z i*y)).symm) rfl)
   (lB (cO ad (by omega) rfl (by omega) (by omega))
   aC)))))))⟩)
   (lB (tlF ad ad)
   aC)
   (fun q hq w v h=>by
    simp only [xh,List.mem_cons,List.not_mem_nil,or_false] at hq
    rcases hq with rfl
    ·exact (fun h=>h) h)) (lB (dZ [1] (ng (z:=(upto n (fun i=>z i*y))) (n:=n) (k:=(k+l)) (F:=(fun ι w v=>ak w v ((upto n (fun i=>z i*y)) ι) (k+l))) (fun _ _ h=>am.rw h) (fun _ _ _ h=>ak.i h) (fun _ _ _ _ g h=>ak.kp h g) rfl (by omega) (by omega)))
   aC)))))
  (aK [.fact 0 (.one (.s)),.fact 1 (.one (.fv))] ⟨Rw.Is 2 (If z k) n,fun _ _ h=>gO.is (f:=169) (sz:=2) (G:=Iw y l) h,trivial⟩) bh
section
variable {Φ:PH}{p q x n k l:Nat}{z:Nat->Int}{y:Int}{L:List Int}
theorem IF (hp:∀w v,Φ p w v->Rw 2 (If z k) n w v) (hq:∀w v,Φ q w v->gO 169 2 (Iw y l) w v) (hx:Φ x=Rw 2 (Nf (an L) (k+l)) L.length) (hn:n<=1000000) (hk:k+l<=400000) (hL:aP (mk n (fun i=>z i*y))=L):ai Φ Tryz.prog ⟨135,[.fact p,.fact q],[oS x],false⟩:=
 bi (IE hn hk) ⟨hp,hq,trivial⟩ ⟨⟨rfl,⟨rfl,rfl,fun _ _ h=>hx▸hL▸qN h⟩,trivial⟩,trivial⟩
def IG (z:Nat->Int) (y:Int) (n k l:Nat):List WP:=[Rw 2 (If z k) n,Iw y l,Ptr 2 (Iw y l),gO 169 2 (Iw y l),fun w v=>Rw 2 (fun ι w v=>ak w v ((an (aP (mk n (fun i=>z i*y)))) ι) (k+l)) ((aP (mk n (fun i=>z i*y))).length) w v]
def IH:List Step:=[.base ⟨0,[.fact 1],[oP 2],.fresh [] (qR 51)⟩,
   bQ [.fact 2] [⟨.one (.fv),[(0,0,3)]⟩] (qT 169),
   .base ⟨135,[.fact 0,.fact 3],[oS 4],false⟩]
def II:List Out:=[oS 0,oI 1]
theorem IJ {z:Nat->Int}{y:Int}{n k l:Nat} (hn:n<=1000000) (hk:k+l<=400000):ai (ph (IG z y n k l)) Tryz.prog ⟨131,[.fact 0,.fact 1],[oS 4],false⟩:=by
 skip
 exact bg II [oS 4] IH Tryz.func131 (by kernel_rfl)
  (lB (Ir iI rfl)
   (lB (Iu (sz:=2) (G:=Iw y l) ad rfl)
   (lB (IF (Rw.To 2 (If z k) n (fun _ _ _ _ h=>h)) ad rfl (by omega) (by omega) rfl)
   aC)))
  (aK [.fact 0 (.one (.s)),.fact 1 (.agg [.b,.s])] ⟨Rw.Is 2 (If z k) n,fun _ _ h=>aj.is h,trivial⟩) bh
theorem Bf (hp:∀w v,Φ p w v->Rw 2 (If z k) n w v) (hq:∀w v,Φ q w v->aj w v y l) (hx:Φ x=Rw 2 (Nf (an L) (k+l)) L.length) (hn:n<=1000000) (hk:k+l<=400000) (hL:aP (mk n (fun i=>z i*y))=L):ai Φ Tryz.prog ⟨131,[.fact p,.fact q],[oS x],false⟩:=
 bi (IJ hn hk) ⟨hp,hq,trivial⟩ ⟨⟨rfl,⟨rfl,rfl,fun _ _ h=>hx▸hL▸h⟩,trivial⟩,trivial⟩
end
end Go.Proofs.YthmcngjhkmpneaaGreat.Sym
