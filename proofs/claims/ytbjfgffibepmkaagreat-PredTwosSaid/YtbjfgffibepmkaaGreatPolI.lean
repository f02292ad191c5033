/- poly.Scale -/
import Derived.Test.YtbjfgffibepmkaaGreatPolL
set_option maxRecDepth 100000
namespace Go.Proofs.YtbjfgffibepmkaaGreat.Sym
open Go.Proofs.Tryz
open Go.RowKit
variable {k l sz:Nat}{w:World}{v:Value}{f:FuncId}{G:WP}{J:List Nat}{y z:Int}
theorem Ptr.is {F:WP} (h:Ptr sz F w v):(bW.one .p).is v:=by
 obtain ⟨b,o,rfl,_⟩:=h
 exact ⟨⟨_,rfl⟩,fun _ h=>by cases h⟩
def jT (f:FuncId) (sz:Nat) (G:WP) (w:World) (v:Value):Prop:=∃p,v = .func (.func f) #[] #[p]∧Ptr sz G w p
theorem jT.is  (h:jT f sz G w v):(bW.one .fv).is v:=by
 obtain ⟨p,rfl,_⟩:=h
 exact ⟨⟨_,_,rfl⟩,fun _ h=>by cases h⟩
def uT (T:TypeId):Op->Option (List Operand)
 | .box t x=>if t=T then some [x] else none
 | _=>none
def uU (F:FuncId):Op->Option (List Operand)
 | .makeFunc (.func f) first captured=>if f=F∧first = #[] then (match captured.toList with | [x]=>some [x] | _=>none) else none
 | _=>none
section
variable {P:Program}{Φ:PH}{p q x j:Nat}{a b:Int}
theorem Qv {T:TypeId} (hp:∀w v,Φ p w v->aF w v z k) (hx:Φ x=Ptr 2 (Iw z k)):aj Φ P ⟨0,[.fact p],[oP x],.fresh J (uT T)⟩:=fun X w ac o xs hX hm ha=>by
 unfold uT at hm
 split at hm
 case h_2=>cases hm
 rename_i t y ho
 split at hm
 case isFalse=>cases hm
 rename_i ht
 subst ht
 simp only [Option.some.injEq] at hm
 subst hm
 obtain ⟨b0,s0,X0,hv,_⟩:=hp _ _ (ha.1 w (Off.refl _ _))
 have hg:=World.grownBy_alloc w (.cells #[.bool b0,s0] t) none
 refine ⟨.pointer (some ⟨w.heap.size,0,none⟩),w.alloc (.cells #[.bool b0,s0] t),?_,hg,cP ⟨⟨_,rfl⟩,fun _ h=>by cases h⟩ hx fun w1 hw=>?_⟩
 ·unfold execOp
  simp [ho,hv,Instr.box,newVar,newRow,Value.cells]
 ·refine ⟨_,_,rfl,[.bool b0,s0],rfl,fun i u hi=>?_,?_⟩
  ·have hbk:=hw.2 w.heap.size (by simp) (fun h=>by have:=hX _ h;omega)
   rw [World.cell?_of_block hbk,World.cell?_alloc_new]
   simpa using hi
  ·exact hv▸hp _ _ (ha.1 w1 ((Off.grown hg).trans hw fun _ _ h=>h))
theorem Qw  (hp:∀w v,Φ p w v->Ptr sz G w v) (hx:Φ x=jT f sz G):aj Φ P ⟨0,[.fact p],[⟨.one .fv,[(0,0,x)]⟩],.quiet (uU f)⟩:=fun X w ac o xs _ hm ha=>by
 unfold uU at hm
 split at hm
 case h_2=>cases hm
 rename_i g first captured ho
 split at hm
 case isFalse=>cases hm
 rename_i hc
 obtain ⟨rfl,rfl⟩:=hc
 split at hm
 case h_2=>cases hm
 rename_i y hy
 simp only [Option.some.injEq] at hm
 subst hm
 have hcap:captured = #[y]:=by apply Array.ext';simpa using hy
 subst hcap
 refine ⟨.func (.func g) #[] #[ac.eval y],w,?_,bt w none,cP ⟨⟨_,_,rfl⟩,fun _ h=>by cases h⟩ hx fun w1 hw=>⟨_,rfl,hp _ _ (ha.1 w1 hw)⟩⟩
 unfold execOp
 simp [ho,Instr.makeFunc]
end
def CE (z y:Int) (k l:Nat):List WP:=[Iw z k,Ptr 2 (Iw y l),Iw y l,Nw (z*y) (k+l)]
def Qx:List Step:=[bQ [1] [oI 2] (aO 27),.base ⟨135,[0,2],[oI 3],false⟩]
def Qy:List Out:=[oI 0,oP 1]
theorem Qz  (hk:k+l<=400000):aj (ph (CE z y k l)) prog ⟨134,[0,1],[oI 3],false⟩:=aQ Qy [oI 3] Qx func134 (by kernel_rfl) (lB (cU (sz:=2) (F:=Iw y l) ad (fun _ _ _ g h=>aF.kp h g) (fun _ _ h=>aF.is h) rfl) (lB (qV iI iI rfl rfl) aD))
  (aM [.fact 0 (.agg [.b,.s]),.fact 1 (.one (.p))] ⟨fun _ _ h=>aF.is h,fun _ _ h=>Ptr.is (sz:=2) (F:=Iw y l) h,trivial⟩) aV
theorem QA {Φ:PH}{f p x:Nat}{t:Int} (hf:∀w v,Φ f w v->jT 134 2 (Iw y l) w v) (hp:∀w v,Φ p w v->aF w v z k) (hx:Φ x=Nw t (k+l)) (ht:z*y=t) (hk:k+l<=400000:=by omega):aj Φ prog ⟨134,[.fact f,.fact p],[⟨iS,[(0,0,x)]⟩],.oo J⟩:=fun X w u vs hX ha=>by
 obtain ⟨q,rfl,_⟩:=hf _ _ (ha.1 w (Off.refl _ _))
 match vs,ha.2 with
 | [v],h2=>
  refine ⟨#[q],rfl,(Qz (z:=z) (y:=y) hk X w [v,q] hX ⟨fun w1 hw=>hp _ _ (h2.1 w1 hw),fun w1 hw=>?_,trivial⟩).mono fun e w' ⟨hg,us,he,ho⟩=>⟨hg,us,he,?_⟩⟩
  ·obtain ⟨q',e,h3⟩:=hf _ _ (ha.1 w1 hw)
   simp only [Value.func.injEq,Array.mk.injEq,List.cons.injEq,and_true,true_and] at e
   exact e▸h3
  ·exact kZ.ok (Φ:=Φ) (Ψ:=ph (CE z y k l)) (l:=[⟨.agg [.b,.s],[(0,0,3)]⟩]) (m:=[⟨iS,[(0,0,x)]⟩]) ⟨⟨rfl,⟨rfl,rfl,fun _ _ h=>hx▸ht▸h⟩,trivial⟩,trivial⟩ ho
def uV (z:Nat->Int) (y:Int) (n k l:Nat):List WP:=[Rw 2 (If z k) n,jT 134 2 (Iw y l),Nz n,fun w v=>aC 2 27 (fun ι w v=>ak w v ((upto 0 (fun i=>z i*y)) ι) (k+l)) n w v,Nz n,fun w v=>aC 2 27 (fun ι w v=>ak w v ((upto n (fun i=>z i*y)) ι) (k+l)) n w v,fun w v=>Rw 2 (fun ι w v=>ak w v ((upto n (fun i=>z i*y)) ι) (k+l)) (tl (upto n (fun i=>z i*y)) n) w v]
def QB (z:Nat->Int) (y:Int) (n k l:Nat) (j:Nat):List WP:=[Nz j,fun w v=>aC 2 27 (fun ι w v=>ak w v ((upto j (fun i=>z i*y)) ι) (k+l)) n w v,fun _ _=>True,Ptr 2 (Iw (z j) k),Iw (z j) k,Nw ((z j)*y) (k+l),At 2,Ptr 2 (Nw ((upto j (fun i=>z i*y)) j) (k+l)),fun w v=>aC 2 27 (fun ι w v=>ak w v ((upto (j+1) (fun i=>z i*y)) ι) (k+l)) n w v,Nz (j+1)]
def CF:bJ:=⟨[0,1,4,8,9,10,11,12],[(.slot 13,.i),(.slot 5,.s)],[(.one 0,7),(.one 1,.cD [1] 8),(.one 1,.lo 1)],[.closed (.one (.ci .i64 0)),.frm 3,.frm 0],7,[(8,5)]⟩
def CG:List Step:=[bQ [7,4] oT (au .lss),bQ [0,7] [oP 10] (aN 24),bQ [10] [oI 11] (aO 27),.base ⟨134,[1,11],[oI 12],.oo []⟩,.base ⟨0,[8,7],[oP 14],.joint [1] 13 (aN 24)⟩,.base ⟨0,[8,7,.any,12],[oS 15],.put [] 1 0 13 (fB 27 (.tmp 18) (.tmp 19))⟩,bQ [7,.lit (.ci .i64 1)] [oN 16] (au .add)]
def QC:List Step:=[bQ [7,4] oF (au .lss)]
def QD:List Step:=[bQ [0] [oN 2] (aK 24),.base ⟨0,[2,2],[oS 3],.loose [] 1 0 (fK 24)⟩,bQ [0] [oN 4] (aK 24),.loop CF [(CG,[.frm 16,.frm 15,.frm 0])] QC,.base ⟨105,[5],[oS 6],.dF [1] false⟩]
def QE:List Out:=[oS 0,⟨.one (.fv),[(0,0,1)]⟩]
theorem QF {z:Nat->Int}{n:Nat} (hn:n<=1000000) (hk:k+l<=400000):aj (ph (uV z y n k l)) prog ⟨133,[0,1],[oS 6],false⟩:=aQ QE [oS 6] QD func133 (by kernel_rfl) (lB (aS (F:=(If z k)) underlying24 ad rfl) (lB (kN (n:=n) (F:=(fun ι w v=>ak w v ((upto 0 (fun i=>z i*y)) ι) (k+l))) ad (fun i w=>ak.zero w (k+l)) rfl) (lB (aS (F:=(If z k)) underlying24 ad rfl) (cm (counted n (fun j=>ph (uV z y n k l ++ QB z y n k l j)) (fun _=>0) (fun j p hp=>cn (show p<(uV z y n k l).length from hp)) ⟨fun _=>rfl,ad,bS,trivial⟩ (fun j hj=>by
   skip
   exact ⟨(CG,[.frm 16,.frm 15,.frm 0]),rfl,⟨ad,ad,bS,trivial⟩,(lB (bH ad ad) (lB (co (i:=j) (F:=(If z k)) underlying24 ad ad rfl) (lB (cU (sz:=2) (F:=Iw (z j) k) ad (fun _ _ _ g h=>aF.kp h g) (fun _ _ h=>aF.is h) rfl) (lB (QA ad iI rfl rfl) (lB (fL (i:=j) (sz:=2) (n:=n) (F:=(fun ι w v=>ak w v ((upto j (fun i=>z i*y)) ι) (k+l))) underlying24 (fun _ _ h=>aC.arr h) ad rfl rfl) (lB (iz (i:=j) (n:=n) (F:=(fun ι w v=>ak w v ((upto j (fun i=>z i*y)) ι) (k+l))) (F':=(fun ι w v=>ak w v ((upto (j+1) (fun i=>z i*y)) ι) (k+l))) (G:=Nw ((z j)*y) (k+l)) (.tmp 18) (.tmp 19) ad ad ad rfl (fun _ _ h=>ak.cells h) (fun _ _ _ _ g h=>ak.kp h g) (fun _ _ _ g h=>ak.kp h g) (fun i w v hi h=>by rw [mg hi];exact h) (fun w v h=>h.eq (mh j (fun i=>z i*y)).symm) rfl) (lB (ct ad rfl) aD)))))))⟩) (lB (tlF ad ad) aD)
   (fun q hq w v h=>by
    simp only [CF,List.mem_cons,List.not_mem_nil,or_false] at hq
    rcases hq with rfl
    ·exact (fun h=>h) h)) (lB (eF [1] (ig (z:=(upto n (fun i=>z i*y))) (n:=n) (k:=(k+l)) (F:=(fun ι w v=>ak w v ((upto n (fun i=>z i*y)) ι) (k+l))) (fun _ _ h=>aC.rw h) (fun _ _ _ h=>ak.i h) (fun _ _ _ _ g h=>ak.kp h g) rfl)) aD)))))
  (aM [.fact 0 (.one (.s)),.fact 1 (.one (.fv))] ⟨Rw.Is 2 (If z k) n,fun _ _ h=>jT.is (f:=134) (sz:=2) (G:=Iw y l) h,trivial⟩) aV
section
variable {Φ:PH}{p q x n:Nat}{z:Nat->Int}{L:List Int}
theorem QG (hp:∀w v,Φ p w v->Rw 2 (If z k) n w v) (hq:∀w v,Φ q w v->jT 134 2 (Iw y l) w v) (hx:Φ x=Rw 2 (Nf (ae L) (k+l)) L.length) (hL:an (mk n (fun i=>z i*y))=L) (hn:n<=1000000:=by omega) (hk:k+l<=400000:=by omega):aj Φ prog ⟨133,[.fact p,.fact q],[oS x],false⟩:=
 aT (QF hn hk) ⟨hp,hq,trivial⟩ ⟨⟨rfl,⟨rfl,rfl,fun _ _ h=>hx▸hL▸ol h⟩,trivial⟩,trivial⟩
def QH (z:Nat->Int) (y:Int) (n k l:Nat):List WP:=[Rw 2 (If z k) n,Iw y l,Ptr 2 (Iw y l),jT 134 2 (Iw y l),fun w v=>Rw 2 (fun ι w v=>ak w v ((ae (an (mk n (fun i=>z i*y)))) ι) (k+l)) ((an (mk n (fun i=>z i*y))).length) w v]
def QI:List Step:=[.base ⟨0,[1],[oP 2],.fresh [] (uT 27)⟩,bQ [2] [⟨.one (.fv),[(0,0,3)]⟩] (uU 134),.base ⟨133,[0,3],[oS 4],false⟩]
def QJ:List Out:=[oS 0,oI 1]
theorem QK  (hn:n<=1000000) (hk:k+l<=400000):aj (ph (QH z y n k l)) prog ⟨92,[0,1],[oS 4],false⟩:=aQ QJ [oS 4] QI func92 (by kernel_rfl) (lB (Qv iI rfl) (lB (Qw (sz:=2) (G:=Iw y l) ad rfl) (lB (QG (Rw.To 2 (If z k) n (fun _ _ _ _ h=>h)) ad rfl rfl) aD)))
  (aM [.fact 0 (.one (.s)),.fact 1 (.agg [.b,.s])] ⟨Rw.Is 2 (If z k) n,fun _ _ h=>aF.is h,trivial⟩) aV
theorem QL (hp:∀w v,Φ p w v->Rw 2 (If z k) n w v) (hq:∀w v,Φ q w v->aF w v y l) (hx:Φ x=Rw 2 (Nf (ae L) (k+l)) L.length) (hL:an (mk n (fun i=>z i*y))=L) (hn:n<=1000000:=by omega) (hk:k+l<=400000:=by omega):aj Φ prog ⟨92,[.fact p,.fact q],[oS x],false⟩:=
 aT (QK hn hk) ⟨hp,hq,trivial⟩ ⟨⟨rfl,⟨rfl,rfl,fun _ _ h=>hx▸hL▸h⟩,trivial⟩,trivial⟩
end
end Go.Proofs.YtbjfgffibepmkaaGreat.Sym
