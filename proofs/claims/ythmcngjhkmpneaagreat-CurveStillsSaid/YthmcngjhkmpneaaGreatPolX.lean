/- poly.trim; contracts told in one list of predicates, told in another. poly.Of, Deg, coefficient, Lead. keep.Poly; the reference's polynomials: cut, From, Of, Same. -/
import Derived.Test.YthmcngjhkmpneaaGreatPolC
set_option maxRecDepth 100000
namespace Go.Proofs.YthmcngjhkmpneaaGreat.Sym
open Go.RowKit
theorem pC {z:Int} (h:cj z 0=0):z=0:=by
 unfold cj at h
 split at h
 ·cases h
 ·split at h
  ·assumption
  ·cases h
def gQ (Ψ Φ:PH):List (Nat×Nat×Nat)->List (Nat×Nat×Nat)->Prop
 | [],[]=>True
 | a :: l,b :: m=>(a.1=b.1∧a.2.1=b.2.1∧∀w v,Ψ a.2.2 w v->Φ b.2.2 w v)∧gQ Ψ Φ l m
 | _,_=>False
theorem gQ.ok {Φ Ψ:PH}{X:Nat->Prop}{w:World}{v:Value}:∀{l m:List (Nat×Nat×Nat)},gQ Ψ Φ l m->(∀q,q ∈ l->∀w1,Off X w w1->Ψ q.2.2 w1 (aN q.1 q.2.1 v))->∀q,q ∈ m->∀w1,Off X w w1->Φ q.2.2 w1 (aN q.1 q.2.1 v)
 | [],[],_,_,q,hq,_,_=>by cases hq
 | a :: l,b :: m,h,ha,q,hq,w1,hw=>by
  rcases List.mem_cons.1 hq with rfl | hq
  ·have:=ha a (List.mem_cons_self ..) w1 hw
   rw [<- h.1.1,<- h.1.2.1]
   exact h.1.2.2 _ _ this
  ·exact gQ.ok h.2 (fun q hq=>ha q (List.mem_cons_of_mem _ hq)) q hq w1 hw
def jw (Φ Ψ:PH) (p:Nat):List (Nat×Nat×Nat)->Prop
 | []=>True
 | q :: l=>(∀w v,Φ p w v->Ψ q.2.2 w (aN q.1 q.2.1 v))∧jw Φ Ψ p l
theorem jw.ok {Φ Ψ:PH}{p:Nat}:∀{l:List (Nat×Nat×Nat)},jw Φ Ψ p l->∀q,q ∈ l->∀w v,Φ p w v->Ψ q.2.2 w (aN q.1 q.2.1 v)
 | _ :: l,h,q,hq=>by
  rcases List.mem_cons.1 hq with rfl | hq
  ·exact h.1
  ·exact jw.ok h.2 q hq
def d7 (Φ Ψ:PH):List Arg->List Arg->Prop
 | [],[]=>True
 | .fact p :: l,.fact q :: m=>(∀w v,Φ p w v->Ψ q w v)∧d7 Φ Ψ l m
 | .lit a :: l,.lit b :: m=>a=b∧d7 Φ Ψ l m
 | .lit a :: l,.fact q :: m=>(∀w,Ψ q w (a.ev a8))∧d7 Φ Ψ l m
 | .any :: l,.any :: m=>d7 Φ Ψ l m
 | .parts sh fs :: l,.parts sh' fs' :: m=>(sh=sh'∧gQ Φ Ψ fs fs')∧d7 Φ Ψ l m
 | .fact p :: l,.parts sh fs :: m=>((∀w v,Φ p w v->sh.is v)∧jw Φ Ψ p fs)∧d7 Φ Ψ l m
 | _,_=>False
def iD (Ψ Φ:PH):List Out->List Out->Prop
 | [],[]=>True
 | a :: l,b :: m=>(a.sh=b.sh∧gQ Ψ Φ a.fs b.fs)∧iD Ψ Φ l m
 | _,_=>False
theorem d7.ok {Φ Ψ:PH}{X:Nat->Prop}{w:World}:∀{l m:List Arg}{vs:List Value},d7 Φ Ψ l m->bF Φ X w l vs->bF Ψ X w m vs
 | [],[],[],_,_=>trivial
 | .fact _ :: _,.fact _ :: _,_ :: _,h,ha=>⟨fun w1 hw=>h.1 _ _ (ha.1 w1 hw),d7.ok h.2 ha.2⟩
 | .lit _ :: _,.lit _ :: _,_ :: _,h,ha=>⟨h.1▸ha.1,d7.ok h.2 ha.2⟩
 | .any :: _,.any :: _,_ :: _,h,ha=>⟨trivial,d7.ok h ha.2⟩
 | .lit _ :: _,.fact _ :: _,_ :: _,h,ha=>⟨fun w1 _=>by rw [show _=_ from ha.1];exact h.1 w1,d7.ok h.2 ha.2⟩
 | .parts _ _ :: _,.parts _ _ :: _,_ :: _,h,ha=>⟨⟨h.1.1▸ha.1.1,gQ.ok h.1.2 ha.1.2⟩,d7.ok h.2 ha.2⟩
 | .fact _ :: _,.parts _ _ :: _,_ :: _,h,ha=>⟨⟨h.1.1 _ _ (get ha.1),fun q hq w1 hw=>jw.ok h.1.2 q hq w1 _ (ha.1 w1 hw)⟩,d7.ok h.2 ha.2⟩
theorem iD.ok {Φ Ψ:PH}{X:Nat->Prop}{w:World}:∀{l m:List Out}{us:List Value},iD Ψ Φ l m->bc Ψ X w l us->bc Φ X w m us
 | [],[],[],_,_=>trivial
 | _ :: _,_ :: _,_ :: _,h,ha=>⟨⟨h.1.1▸ha.1.1,gQ.ok h.1.2 ha.1.2⟩,iD.ok h.2 ha.2⟩
theorem bi {P:Program}{Φ Ψ:PH}{f:FuncId}{ar jt:List Arg}{outs ju:List Out}{aJ:Bool} (h:ai Ψ P ⟨f,jt,ju,.call aJ⟩) (ha:d7 Φ Ψ ar jt) (ho:iD Ψ Φ ju outs):ai Φ P ⟨f,ar,outs,.call aJ⟩:=
 fun X w vs hX h'=>(h X w vs hX (ha.ok h')).mono fun _ _w' ⟨hg,us,he,h2⟩=>⟨hg,us,he,ho.ok h2⟩
def Ct (F:PH) (z:Nat->Int) (n0:Nat):List WP:=[Rw 2 F n0,Nz n0,Ni ((tl z n0:Nat):Int),Rw 2 F (tl z n0)]
def Jq (F:PH) (z:Nat->Int) (n0:Nat) (j:Nat):List WP:=[Nz (n0-j),Nz (n0-(j+1)),Ptr 2 (F (n0-(j+1))),F (n0-(j+1)),Nw 0 0,Ni (cj (z (n0-(j+1))) (0:Int)),Nz (n0-(j+1))]
def xD:bj:=⟨[0,2,4,5],[(.slot 3,.i)],[(.one 0,4)],[.frm 1],4,[(4,2)]⟩
def xE:List Step:=[.derive (.agg [.cb false,.nl]) (.agg [.lit (.cb false),.lit (.nl)]) [] 8,
   bQ [.fact 4,.lit (.ci .i64 0)] oT (au .gtr),
   bQ [.fact 4,.lit (.ci .i64 1)] [oN 5] (au .sub),
   bQ [.fact 0,.fact 5] [oP 6] (aO 28),
   bQ [.fact 6] [oI 7] (aS 51),
   .base ⟨74,[.fact 7,.fact 8],[oN 9],false⟩,
   bQ [.fact 9,.lit (.ci .i64 0)] oT (au .eql),
   bQ [.fact 4,.lit (.ci .i64 1)] [oN 10] (au .sub)]
def Jr:List Step:=[bQ [.fact 4,.lit (.ci .i64 0)] oF (au .gtr)]
def Js:List Step:=[bQ [.fact 0] [oN 1] (aI 28),
   .loop xD [(xE,[.frm 10])] Jr,
   bQ [.fact 0,.fact 2] [oS 3] (dX 28)]
def Jt:List Out:=[oS 0]
theorem Ju {F:PH}{z:Nat->Int}{n0 k:Nat} (hF:∀i w v,F i w v->aj w v (z i) k) (hK:∀i w w1 v,Kp w w1->F i w v->F i w1 v) (hn:n0<=1000000) (hk:k<=500000) (ht:tl z n0=0):ai (ph (Ct F z n0)) Tryz.prog ⟨66,[.fact 0],[oS 3],false⟩:=by
 have hle:=aV z n0
 exact bg Jt [oS 3] Js Tryz.func66 (by kernel_rfl)
  (lB (a9 (F:=F) Tryz.underlying28 ad rfl)
   (bN (counted (n0-tl z n0) (fun j=>ph (Ct F z n0 ++ Jq F z n0 j)) (fun _=>0) (fun j p hp=>bO (show p<(Ct F z n0).length from hp)) ⟨ad,trivial⟩ (fun j hj=>by
   have h0:z (n0-(j+1))=0:=fX z n0 _ (by omega) (by omega)
   exact ⟨(xE,[.frm 10]),rfl,⟨ad,trivial⟩,(eD (iq rfl)
   (lB (fA ad)
   (lB (cI ad (by omega) rfl (by omega) (by omega))
   (lB (b6 (i:=(n0-(j+1))) (F:=F) Tryz.underlying28 (by kernel_rfl) ad ad (by omega) rfl)
   (lB (bK (sz:=2) (F:=F (n0-(j+1))) (by kernel_rfl) (by kernel_rfl) ad (fun w w1 v g h=>hK (n0-(j+1)) w w1 v g h) (fun w v h=>aj.is (hF (n0-(j+1)) w v h)) rfl)
   (lB (ir (hF (n0-(j+1))) nI rfl (by omega) rfl)
   (lB (cn (op:=.eql) ad (cw (decide_eq_true (by rw [h0];rfl)) (by simp)))
   (lB (cI ad (by omega) rfl (by omega) (by omega))
   aC))))))))⟩)
   (by
   have hle:=aV z n0
   exact (lB (l9 ad)
   aC))
   (fun q hq w v h=>by
    simp only [xD,List.mem_cons,List.not_mem_nil,or_false] at hq
    rcases hq with rfl
    ·exact (fun h=>h.trans (congrArg (Value.int .i64) (by have:=aV z n0;omega))) h)) (lB (nf (m:=(tl z n0)) (n:=n0) (F:=F) Tryz.underlying28 (by kernel_rfl) ad ad (by first | omega | exact aV _ _) rfl)
   aC)))
  (aK [.fact 0 (.one (.s))] ⟨Rw.Is 2 F n0,trivial⟩) bh
def Cu (F:PH) (z:Nat->Int) (n0:Nat):List WP:=[Rw 2 F n0,Nz n0,Ni ((tl z n0:Nat):Int),Rw 2 F (tl z n0)]
def Jv (F:PH) (z:Nat->Int) (n0:Nat) (j:Nat):List WP:=[Nz (n0-j),Nz (n0-(j+1)),Ptr 2 (F (n0-(j+1))),F (n0-(j+1)),Nw 0 0,Ni (cj (z (n0-(j+1))) (0:Int)),Nz (n0-(j+1)),Nz (tl z n0-1),Ptr 2 (F (tl z n0-1)),F (tl z n0-1),Nw 0 0,Ni (cj (z (tl z n0-1)) (0:Int))]
def xF:bj:=⟨[0,2,4,5],[(.slot 3,.i)],[(.one 0,4)],[.frm 1],4,[(4,2)]⟩
def xG:List Step:=[.derive (.agg [.cb false,.nl]) (.agg [.lit (.cb false),.lit (.nl)]) [] 8,
   bQ [.fact 4,.lit (.ci .i64 0)] oT (au .gtr),
   bQ [.fact 4,.lit (.ci .i64 1)] [oN 5] (au .sub),
   bQ [.fact 0,.fact 5] [oP 6] (aO 28),
   bQ [.fact 6] [oI 7] (aS 51),
   .base ⟨74,[.fact 7,.fact 8],[oN 9],false⟩,
   bQ [.fact 9,.lit (.ci .i64 0)] oT (au .eql),
   bQ [.fact 4,.lit (.ci .i64 1)] [oN 10] (au .sub)]
def Jw:List Step:=[.derive (.agg [.cb false,.nl]) (.agg [.lit (.cb false),.lit (.nl)]) [] 14,
   bQ [.fact 4,.lit (.ci .i64 0)] oT (au .gtr),
   bQ [.fact 4,.lit (.ci .i64 1)] [oN 11] (au .sub),
   bQ [.fact 0,.fact 11] [oP 12] (aO 28),
   bQ [.fact 12] [oI 13] (aS 51),
   .base ⟨74,[.fact 13,.fact 14],[oN 15],false⟩,
   bQ [.fact 15,.lit (.ci .i64 0)] oF (au .eql)]
def Jx:List Step:=[bQ [.fact 0] [oN 1] (aI 28),
   .loop xF [(xG,[.frm 10])] Jw,
   bQ [.fact 0,.fact 2] [oS 3] (dX 28)]
def Jy:List Out:=[oS 0]
theorem Jz {F:PH}{z:Nat->Int}{n0 k:Nat} (hF:∀i w v,F i w v->aj w v (z i) k) (hK:∀i w w1 v,Kp w w1->F i w v->F i w1 v) (hn:n0<=1000000) (hk:k<=500000) (ht:0<tl z n0):ai (ph (Cu F z n0)) Tryz.prog ⟨66,[.fact 0],[oS 3],false⟩:=by
 have hle:=aV z n0
 exact bg Jy [oS 3] Jx Tryz.func66 (by kernel_rfl)
  (lB (a9 (F:=F) Tryz.underlying28 ad rfl)
   (bN (counted (n0-tl z n0) (fun j=>ph (Cu F z n0 ++ Jv F z n0 j)) (fun _=>0) (fun j p hp=>bO (show p<(Cu F z n0).length from hp)) ⟨ad,trivial⟩ (fun j hj=>by
   have h0:z (n0-(j+1))=0:=fX z n0 _ (by omega) (by omega)
   exact ⟨(xG,[.frm 10]),rfl,⟨ad,trivial⟩,(eD (iq rfl)
   (lB (fA ad)
   (lB (cI ad (by omega) rfl (by omega) (by omega))
   (lB (b6 (i:=(n0-(j+1))) (F:=F) Tryz.underlying28 (by kernel_rfl) ad ad (by omega) rfl)
   (lB (bK (sz:=2) (F:=F (n0-(j+1))) (by kernel_rfl) (by kernel_rfl) ad (fun w w1 v g h=>hK (n0-(j+1)) w w1 v g h) (fun w v h=>aj.is (hF (n0-(j+1)) w v h)) rfl)
   (lB (ir (hF (n0-(j+1))) nI rfl (by omega) rfl)
   (lB (cn (op:=.eql) ad (cw (decide_eq_true (by rw [h0];rfl)) (by simp)))
   (lB (cI ad (by omega) rfl (by omega) (by omega))
   aC))))))))⟩)
   (by
   have hle:=aV z n0;have hl:=gy z n0 ht
   exact (eD (iq rfl)
   (lB (fA ad)
   (lB (cI ad (by omega) rfl (by omega) (by omega))
   (lB (b6 (i:=(tl z n0-1)) (F:=F) Tryz.underlying28 (by kernel_rfl) ad ad (by omega) rfl)
   (lB (bK (sz:=2) (F:=F (tl z n0-1)) (by kernel_rfl) (by kernel_rfl) ad (fun w w1 v g h=>hK (tl z n0-1) w w1 v g h) (fun w v h=>aj.is (hF (tl z n0-1) w v h)) rfl)
   (lB (ir (hF (tl z n0-1)) nI rfl (by omega) rfl)
   (lB (cn (op:=.eql) ad (cw (decide_eq_false (fun h=>hl (pC h))) (by simp)))
   aC))))))))
   (fun q hq w v h=>by
    simp only [xF,List.mem_cons,List.not_mem_nil,or_false] at hq
    rcases hq with rfl
    ·exact (fun h=>h.trans (congrArg (Value.int .i64) (by have:=aV z n0;omega))) h)) (lB (nf (m:=(tl z n0)) (n:=n0) (F:=F) Tryz.underlying28 (by kernel_rfl) ad ad (by first | omega | exact aV _ _) rfl)
   aC)))
  (aK [.fact 0 (.one (.s))] ⟨Rw.Is 2 F n0,trivial⟩) bh
section
variable {Φ:PH}{p x n k:Nat}{z:Nat->Int}{F:PH}
theorem ng (hp:∀w v,Φ p w v->Rw 2 F n w v) (hF:∀i w v,F i w v->aj w v (z i) k) (hK:∀i w w1 v,Kp w w1->F i w v->F i w1 v) (hx:Φ x=Rw 2 F (tl z n)) (hn:n<=1000000) (hk:k<=500000):ai Φ Tryz.prog ⟨66,[.fact p],[oS x],false⟩:=by
 rcases Nat.eq_zero_or_pos (tl z n) with h | h
 ·exact bi (Ju hF hK hn hk h) ⟨hp,trivial⟩ ⟨⟨rfl,⟨rfl,rfl,fun _ _ h=>hx▸h⟩,trivial⟩,trivial⟩
 ·exact bi (Jz hF hK hn hk h) ⟨hp,trivial⟩ ⟨⟨rfl,⟨rfl,rfl,fun _ _ h=>hx▸h⟩,trivial⟩,trivial⟩
end
def Cv (z:Nat->Int) (n:Nat):List WP:=[fun w v=>Rw 1 (fun i _ v=>v = .agg #[.int .i64 (z i)]) n w v,Nz n,am 2 51 (Nf (upto 0 z) 2) n,Nz n,am 2 51 (Nf (upto n z) 2) n,Rw 2 (Nf (upto n z) 2) (tl (upto n z) n)]
def JA (z:Nat->Int) (n:Nat) (j:Nat):List WP:=[Nz j,am 2 51 (Nf (upto j z) 2) n,fun _ _=>True,fun w v=>Ptr 1 (fun _ v=>v = .agg #[.int .i64 (z j)]) w v,Ni (z j),Nw (z j) 2,At 2,Ptr 2 (Nw ((upto j z) j) 2),fun w v=>am 2 51 (fun i w v=>ak w v ((upto (j+1) z) i) 2) n w v,Nz (j+1)]
def xH:bj:=⟨[0,2,6,7,8,9,10],[(.slot 11,.i),(.slot 3,.s)],[(.one 0,6),(.one 1,.bZ [1] 7),(.one 1,.lo 1)],[.closed (.one (.ci .i64 0)),.frm 2,.frm 0],6,[(7,4)]⟩
def xJ:List Step:=[bQ [.fact 6,.fact 3] oT (au .lss),
   bQ [.fact 0,.fact 6] [oP 9] (aO 22),
   bQ [.fact 9] [oN 10] (aS 3),
   .base ⟨75,[.fact 10],[oI 11],false⟩,
   .base ⟨0,[.fact 7,.fact 6],[oP 13],.joint [1] 12 (aO 28)⟩,
   .base ⟨0,[.fact 7,.fact 6,.any,.fact 11],[oS 14],.put [] 1 0 12 (eN 51 (.tmp 16) (.tmp 17))⟩,
   bQ [.fact 6,.lit (.ci .i64 1)] [oN 15] (au .add)]
def JB:List Step:=[bQ [.fact 6,.fact 3] oF (au .lss)]
def JC:List Step:=[bQ [.fact 0] [oN 1] (aI 22),
   .base ⟨0,[.fact 1,.fact 1],[oS 2],.loose [] 1 0 (ff 28)⟩,
   bQ [.fact 0] [oN 3] (aI 22),
   .loop xH [(xJ,[.frm 15,.frm 14,.frm 0])] JB,
   .base ⟨66,[.fact 4],[oS 5],.c9 [1] false⟩]
def JD:List Out:=[oS 0]
theorem pof {z:Nat->Int}{n:Nat} (hn:n<=1000000) (hz:∀i,-9223372036854775808<=z i∧z i<=9223372036854775807):ai (ph (Cv z n)) Tryz.prog ⟨23,[.fact 0],[oS 5],false⟩:=by
 skip
 exact bg JD [oS 5] JC Tryz.func23 (by kernel_rfl)
  (lB (a9 (F:=(fun i _ v=>v = .agg #[.int .i64 (z i)])) Tryz.underlying22 ad rfl)
   (lB (rh (n:=n) (F:=(Nf (upto 0 z) 2)) ad (by omega) (fun i w=>ak.zero w 2) rfl)
   (lB (a9 (F:=(fun i _ v=>v = .agg #[.int .i64 (z i)])) Tryz.underlying22 ad rfl)
   (bN (counted n (fun j=>ph (Cv z n ++ JA z n j)) (fun _=>0) (fun j p hp=>bO (show p<(Cv z n).length from hp)) ⟨fun _=>rfl,ad,bp,trivial⟩ (fun j hj=>by
   skip
   exact ⟨(xJ,[.frm 15,.frm 14,.frm 0]),rfl,⟨ad,ad,bp,trivial⟩,(lB (cA ad ad)
   (lB (b6 (i:=j) (F:=(fun i _ v=>v = .agg #[.int .i64 (z i)])) Tryz.underlying22 (by kernel_rfl) ad ad (by omega) rfl)
   (lB (wO (by kernel_rfl) ad rfl)
   (lB (JE ad rfl (by have:=hz j;omega) (by have:=hz j;omega) rfl)
   (lB (dY (i:=j) (sz:=2) (n:=n) (F:=(Nf (upto j z) 2)) Tryz.underlying28 (by kernel_rfl) (fun _ _ h=>am.arr h) ad (by omega) rfl rfl)
   (lB (fB (i:=j) (n:=n) (F:=(fun i w v=>ak w v ((upto j z) i) 2)) (F':=(fun i w v=>ak w v ((upto (j+1) z) i) 2)) (G:=Nw (z j) 2) (.tmp 16) (.tmp 17) (by kernel_rfl) ad ad (by omega) ad rfl (fun _ _ h=>ak.cells h) (fun _ _ _ _ g h=>ak.kp h g) (fun _ _ _ g h=>ak.kp h g) (fun i w v hi h=>by rw [kH hi];exact h) (fun w v h=>by rw [kJ];exact h) rfl)
   (lB (cO ad (by omega) rfl (by omega) (by omega))
   aC)))))))⟩)
   (lB (tlF ad ad)
   aC)
   (fun q hq w v h=>by
    simp only [xH,List.mem_cons,List.not_mem_nil,or_false] at hq
    rcases hq with rfl
    ·exact (fun h=>h) h)) (lB (dZ [1] (ng (z:=(upto n z)) (n:=n) (k:=2) (F:=(Nf (upto n z) 2)) (fun _ _ h=>am.rw h) (fun _ _ _ h=>ak.i h) (fun _ _ _ _ g h=>ak.kp h g) rfl (by omega) (by omega)))
   aC)))))
  (aK [.fact 0 (.one (.s))] ⟨Rw.Is 1 (fun i _ v=>v = .agg #[.int .i64 (z i)]) n,trivial⟩) bh
def JF (n:Nat):List WP:=[eC n,Nz n,Ni (((n:Nat):Int)-1)]
def JG:List Step:=[bQ [.fact 0] [oN 1] (aI 28),
   bQ [.fact 1,.lit (.ci .i64 1)] [oN 2] (au .sub)]
def JH:List Out:=[oS 0]
theorem JI {n:Nat} (hn:n<=1000000):ai (ph (JF n)) Tryz.prog ⟨59,[.fact 0],[oN 2],false⟩:=by
 skip
 exact bg JH [oN 2] JG Tryz.func59 (by kernel_rfl)
  (lB (ke (n:=n) Tryz.underlying28 ad rfl)
   (lB (cI ad (rfl) rfl (by omega) (by omega))
   aC))
  (aK [.fact 0 (.one (.s))] ⟨fun w _ h=>eC.is (n:=n) (w:=w) h,trivial⟩) bh
def RL (z:Nat->Int) (n k:Nat) (i:Nat):List WP:=[Rw 2 (If z k) n,Nz i,Nz n,Ptr 2 (Iw (z i) k),Iw (z i) k]
def RM:List Step:=[bQ [.fact 0] [oN 2] (aI 28),
   bQ [.fact 1,.fact 2] oT (au .lss),
   bQ [.fact 0,.fact 1] [oP 3] (aO 28),
   bQ [.fact 3] [oI 4] (aS 51)]
def RN:List Out:=[oS 0,oN 1]
theorem RO {z:Nat->Int}{n k:Nat}{i:Nat} (hi:i<n):ai (ph (RL z n k i)) Tryz.prog ⟨121,[.fact 0,.fact 1],[oI 4],false⟩:=by
 skip
 exact bg RN [oI 4] RM Tryz.func121 (by kernel_rfl)
  (lB (a9 (F:=(If z k)) Tryz.underlying28 ad rfl)
   (lB (cA ad ad)
   (lB (b6 (i:=i) (F:=(If z k)) Tryz.underlying28 (by kernel_rfl) ad ad (by omega) rfl)
   (lB (bK (sz:=2) (F:=Iw (z i) k) (by kernel_rfl) (by kernel_rfl) ad (fun _ _ _ g h=>aj.kp h g) (fun _ _ h=>aj.is h) rfl)
   aC))))
  (aK [.fact 0 (.one (.s)),.fact 1 (.one (.i))] ⟨Rw.Is 2 (If z k) n,fun _ _ h=>h▸dl _,trivial⟩) (fun _ _ _ h=>h)
def RP (z:Nat->Int) (n k:Nat) (i:Nat):List WP:=[Rw 2 (If z k) n,Nz i,Nz n]
def RQ:List Step:=[bQ [.fact 0] [oN 2] (aI 28),
   bQ [.fact 1,.fact 2] oF (au .lss)]
def RS:List Out:=[oS 0,oN 1]
theorem RU {z:Nat->Int}{n k:Nat}{i:Nat} (hi:n<=i):ai (ph (RP z n k i)) Tryz.prog ⟨121,[.fact 0,.fact 1],[⟨.agg [.lit (.cb false),.lit (.nl)],[]⟩],false⟩:=by
 skip
 exact bg RS [⟨.agg [.lit (.cb false),.lit (.nl)],[]⟩] RQ Tryz.func121 (by kernel_rfl)
  (lB (a9 (F:=(If z k)) Tryz.underlying28 ad rfl)
   (lB (tlF ad ad)
   aC))
  (aK [.fact 0 (.one (.s)),.fact 1 (.one (.i))] ⟨Rw.Is 2 (If z k) n,fun _ _ h=>h▸dl _,trivial⟩) (fun _ _ _ h=>h)
theorem xK {n i:Nat}{f:Nat->Int} (h:i<n):upto n f i=an (aP (mk n f)) i:=by rw [kf,eu,fH h,if_pos h]
theorem JJ (n:Nat) (f:Nat->Int):tl (upto n f) n=(aP (mk n f)).length:=by
 rw [fe];exact mC fun i hi=>fH hi
theorem qN {n k:Nat}{f:Nat->Int}{w:World}{v:Value} (h:Rw 2 (Nf (upto n f) k) (tl (upto n f) n) w v):Rw 2 (Nf (an (aP (mk n f))) k) (aP (mk n f)).length w v:=
 Rw.len (Rw.to h fun i w v hi h=>by show ak w v _ k;rw [<- xK (Nat.lt_of_lt_of_le hi (aV _ _))];exact h) (JJ n f)
section
variable {Φ:PH}{p q x n k i:Nat}{z:Nat->Int}{t:Int}
theorem CX {zs:List Int} (hp:∀w v,Φ p w v->Rw 1 (fun i _ v=>v = .agg #[.int .i64 (z i)]) n w v) (hx:Φ x=Rw 2 (Nf (an zs) 2) zs.length) (hn:n<=1000000) (hz:∀i,-9223372036854775808<=z i∧z i<=9223372036854775807) (hzs:aP (mk n z)=zs):ai Φ Tryz.prog ⟨23,[.fact p],[oS x],false⟩:=
 bi (pof hn hz) ⟨hp,trivial⟩ ⟨⟨rfl,⟨rfl,rfl,fun _ _ h=>hx▸hzs▸qN h⟩,trivial⟩,trivial⟩
theorem oO (hp:∀w v,Φ p w v->eC n w v) (hx:Φ x=Ni t) (hn:n<=1000000) (ht:((n:Nat):Int)-1=t):ai Φ Tryz.prog ⟨59,[.fact p],[oN x],false⟩:=
 bi (JI hn) ⟨hp,trivial⟩ ⟨⟨rfl,⟨rfl,rfl,fun _ _ h=>hx▸ht▸h⟩,trivial⟩,trivial⟩
theorem RV {w:World}{us:List Value}{X:Nat->Prop} (hx:Φ x=Iw 0 k) (h:bc Φ X w [⟨.agg [.lit (.cb false),.lit .nl],[]⟩] us):bc Φ X w [⟨iS,[(0,0,x)]⟩] us:=by
 match us,h with
 | [u],h=>
  obtain ⟨⟨⟨vs,rfl,h2⟩,_⟩,_⟩:=h
  match vs,h2 with
  | [v0,v1],h2=>
   obtain ⟨e0,e1,_⟩:=h2
   have Ie:v0 = .bool false:=e0
   have e1':v1 = .slice none 0 0:=e1
   subst Ie;subst e1'
   exact cH lA hx fun w1 _=>(ak.zero w1 k).i
theorem RJ (hp:∀w v,Φ p w v->Rw 2 (If z k) n w v) (hq:∀w v,Φ q w v->v = .int .i64 (i:Int)) (hx:Φ x=Iw t k) (_hn:n<=1000000) (h1:i<n->z i=t) (h2:n<=i->t=0):ai Φ Tryz.prog ⟨121,[.fact p,.fact q],[⟨iS,[(0,0,x)]⟩],false⟩:=by
 rcases Nat.lt_or_ge i n with h | h
 ·exact bi (RO (z:=z) (k:=k) (n:=n) h) ⟨hp,hq,trivial⟩ ⟨⟨rfl,⟨rfl,rfl,fun _ _ h'=>hx▸h1 h▸h'⟩,trivial⟩,trivial⟩
 ·intro X w vs hX ha
  have ht:=h2 h
  subst ht
  refine (bi (outs:=[⟨.agg [.lit (.cb false),.lit .nl],[]⟩]) (Φ:=Φ) (ar:=[.fact p,.fact q]) (RU (z:=z) (k:=k) (n:=n) h) ⟨hp,hq,trivial⟩ ⟨⟨rfl,trivial⟩,trivial⟩ X w vs hX ha).mono fun e w' ⟨hg,us,he,h2⟩=>⟨hg,us,he,RV hx h2⟩
end
def KI (w:World) (v:Value) (b:Bool) (xs:List Nat) (z:Int) (k:Nat):Prop:=aG w v b xs∧aj w v z k
theorem KI.kp {w w':World}{v:Value}{b:Bool}{xs:List Nat}{z:Int}{k:Nat} (h:KI w v b xs z k) (g:Kp w w'):KI w' v b xs z k:=⟨h.1.kp g,h.2.kp g⟩
theorem KI.dm {b:Bool}{xs:List Nat}{z:Int}{k:Nat}{w:World}{l:List Value} (h:KI w (.agg l.toArray) b xs z k):∀u,u ∈ l->u.oneCell'=true∧bV u:=aj.dm h.2
theorem kI {b:Bool}{xs:List Nat}{z:Int}{k:Nat}:∀w v,KI w v b xs z k->aj w v z k:=fun _ _ h=>h.2
theorem ah.fst' {q:Rat}{k:Nat}{w:World}{l:List Value} (h:ah w (.agg l.toArray) q k):ae w (.agg ((l.drop 0).take 2).toArray) q.num k:=by
 have:=ah.fst h
 simpa [aN,cellsOf,Value.cells] using this
theorem ah.snd' {q:Rat}{k:Nat}{w:World}{l:List Value} (h:ah w (.agg l.toArray) q k):ae w (.agg ((l.drop 2).take 2).toArray) (q.den:Int) k:=by
 have:=ah.snd h
 simpa [aN,cellsOf,Value.cells] using this
theorem mt (z:Int):aD z 1=((z:Int):Rat):=by
 rw [JK,<- Rat.mk_den_one,Rat.mk_eq_divInt];rfl
theorem JL (z:Int):cj (((z:Int):Rat).den:Int) 1=0:=by
 show cj 1 1=0
 decide
section
variable {Φ:PH}{p q x x1 x2 i j:Nat}
theorem pt (k:Nat){z:Int}{b:Bool}{xs:List Nat} (hp:∀w v,Φ p w v->aG w v b xs) (hq:∀w v,Φ q w v->v = .int .i64 (k:Int)) (hx:Φ x=fun w v=>KI w v b (xs.take k) z k) (hz:sg b (Proofs.YthmcngjhkmpneaaGreat.val 4294967296 (xs.take k))=z):ai Φ Tryz.prog ⟨65,[.fact p,.fact q],[⟨iS,[(0,0,x)]⟩],false⟩:=fun X w vs hX ha=>by
 match vs,ha with
 | [v,u],ha=>
  refine ((q7 (Φ:=ph [fun w v=>aG w v b xs,Ni (k:Int),fun w v=>aG w v b (xs.take k),Iw z k]) (p:=0) (q:=1) (x:=2) (x':=3) k ad ad rfl rfl hz) X w [v,u] hX ⟨fun w1 hw=>hp _ _ (ha.1 w1 hw),fun w1 hw=>hq _ _ (ha.2.1 w1 hw),trivial⟩).mono fun e w' ⟨hg,us,he,ho⟩=>⟨hg,us,he,?_⟩
  match us,ho with
  | [u],ho=>
   exact cH ho.1.1 hx fun w1 hw=>⟨ho.1.2 (0,0,2) (List.mem_cons_self ..) w1 hw,ho.1.2 (0,0,3) (List.mem_cons_of_mem _ (List.mem_cons_self ..)) w1 hw⟩
theorem JM {z y:Int}{t:Rat} (hp:∀w v,Φ p w v->v = .int .i64 z) (hx:Φ x=Dw t 6) (hx1:Φ x1=fun w v=>ae w v t.num 6) (hx2:Φ x2=fun w v=>ae w v (t.den:Int) 6) (z1 : -9223372036854775808<=z) (z2:z<=9223372036854775807) (y1 : -9223372036854775808<=y) (y2:y<=9223372036854775807) (ht:aD z y=t):ai Φ Tryz.prog ⟨38,[.fact p,.lit (.ci .i64 y)],[⟨sS,[(0,0,x),(0,2,x1),(2,2,x2)]⟩],false⟩:=
 dj fun _ w v u h0 h1=>by
  obtain rfl:=hp _ _ (get h0)
  obtain rfl:u = .int .i64 y:=h1
  exact (xL z y z1 z2 y1 y2 ht).mono fun _ _ h=>iF hx hx1 hx2 h
theorem JN {z y r:Int} (hp:∀w v,Φ p w v->ae w v z i) (hq:∀w v,Φ q w v->ae w v y j) (hi:i+j<=1000000) (hr:cj z y=r):ai Φ Tryz.prog ⟨103,[.fact p,.fact q],[oL (.ci .i64 r)],false⟩:=
 dj fun _ _ _ _ h0 h1=>(JO r (hp _ _ (get h0)) (hq _ _ (get h1)) hi hr).mono fun _ _ h=>JP h
end
def q8 (a:Nat->Bool) (xs:Nat->List Nat) (ez:Nat->Int) (n0 K m N:Nat):List WP:=[fun w v=>Rw 2 (fun ι w v=>aG w v (a ι) (xs ι)) n0 w v,Nz K,Nz m,fun w v=>am 2 51 (fun ι w v=>KI w v (a ι) ((fun ι=>(xs ι).take m) ι) (ez ι) m) N w v]
def JQ (a:Nat->Bool) (xs:Nat->List Nat) (ez:Nat->Int) (n0 m:Nat) (j:Nat):List WP:=[Nz j,fun w v=>am 2 51 (fun ι w v=>KI w v (a ι) ((fun ι=>(xs ι).take m) ι) (ez ι) m) j w v,fun _ _=>True,Nz n0,fun w v=>Ptr 2 (fun w v=>aG w v (a j) (xs j)) w v,fun w v=>aG w v (a j) (xs j),fun w v=>KI w v (a j) ((xs j).take m) (ez j) m,fun w v=>am 2 51 (fun ι w v=>KI w v (a ι) ((fun ι=>(xs ι).take m) ι) (ez ι) m) (j+1) w v,Nz (j+1),Nz n0]
def xM:bj:=⟨[0,1,2,6],[(.slot 8,.i),(.slot 7,.s)],[(.one 0,4),(.one 1,.bZ [1] 5),(.one 1,.lo 1)],[.closed (.one (.ci .i64 0)),.closed (.one (.nl)),.frm 0],4,[(5,3)]⟩
def xN:List Step:=[bQ [.fact 0] [oN 7] (aI 28),
   bQ [.fact 4,.fact 7] oT (au .lss),
   bQ [.fact 4,.fact 1] oT (au .lss),
   bQ [.fact 0,.fact 4] [oP 8] (aO 28),
   bQ [.fact 8] [oI 9] (aS 51),
   .base ⟨65,[.fact 9,.fact 2],[oI 10],false⟩,
   .base ⟨0,[.fact 5,.row 2 [10]],[oS 11],.loose [] 1 0 (cU 28 28)⟩,
   bQ [.fact 4,.lit (.ci .i64 1)] [oN 12] (au .add)]
def JR:List Step:=[bQ [.fact 0] [oN 13] (aI 28),
   bQ [.fact 4,.fact 13] oF (au .lss)]
def JS:List Step:=[.loop xM [(xN,[.frm 12,.frm 11,.frm 0])] JR]
def JT:List Out:=[oS 0,oN 1,oN 2]
theorem JU {a:Nat->Bool}{xs:Nat->List Nat}{ez:Nat->Int}{n0 K m N:Nat} (hn:n0<=9223372036854775807) (hKm:K<=1000000) (hz:∀j,sg (a j) (Proofs.YthmcngjhkmpneaaGreat.val 4294967296 ((xs j).take m))=ez j) (hN:N=n0) (hK:N<=K):ai (ph (q8 a xs ez n0 K m N)) Tryz.prog ⟨19,[.fact 0,.fact 1,.fact 2],[oS 3],false⟩:=by
 skip
 exact bg JT [oS 3] JS Tryz.func19 (by kernel_rfl)
  (bN (counted N (fun j=>ph (q8 a xs ez n0 K m N ++ JQ a xs ez n0 m j)) (fun _=>0) (fun j p hp=>bO (show p<(q8 a xs ez n0 K m N).length from hp)) ⟨fun _=>rfl,fun w=>am.nil 2 51 (fun ι w v=>KI w v (a ι) ((fun ι=>(xs ι).take m) ι) (ez ι) m) w,bp,trivial⟩ (fun j hj=>by
   skip
   exact ⟨(xN,[.frm 12,.frm 11,.frm 0]),rfl,⟨ad,ad,bp,trivial⟩,(lB (a9 (F:=(fun ι w v=>aG w v (a ι) (xs ι))) Tryz.underlying28 ad rfl)
   (lB (cA ad ad)
   (lB (cA ad ad)
   (lB (b6 (i:=j) (F:=(fun ι w v=>aG w v (a ι) (xs ι))) Tryz.underlying28 (by kernel_rfl) ad ad (by omega) rfl)
   (lB (bK (sz:=2) (F:=fun w v=>aG w v (a j) (xs j)) (by kernel_rfl) (by kernel_rfl) ad (fun _ _ _ g h=>aG.kp h g) (fun _ _ h=>aG.is h) rfl)
   (lB (pt m ad ad rfl (hz j))
   (lB (mh (n:=j) (F:=(fun ι w v=>KI w v (a ι) ((fun ι=>(xs ι).take m) ι) (ez ι) m)) (fun _ _ _ _ g h=>KI.kp h g) ad ad (fun _ _ h=>KI.dm h) (by omega) rfl)
   (lB (cO ad (by omega) rfl (by omega) (by omega))
   aC))))))))⟩)
   (lB (a9 (F:=(fun ι w v=>aG w v (a ι) (xs ι))) Tryz.underlying28 ad rfl)
   (lB (tlF ad ad)
   aC))
   (fun q hq w v h=>by
    simp only [xM,List.mem_cons,List.not_mem_nil,or_false] at hq
    rcases hq with rfl
    ·exact (fun h=>h) h)) aC)
  (aK [.fact 0 (.one (.s)),.fact 1 (.one (.i)),.fact 2 (.one (.i))] ⟨Rw.Is 2 (fun ι w v=>aG w v (a ι) (xs ι)) n0,fun _ _ h=>h▸dl _,fun _ _ h=>h▸dl _,trivial⟩) (fun _ _ _ h=>h)
def q9 (a:Nat->Bool) (xs:Nat->List Nat) (ez:Nat->Int) (n0 K m N:Nat):List WP:=[fun w v=>Rw 2 (fun ι w v=>aG w v (a ι) (xs ι)) n0 w v,Nz K,Nz m,fun w v=>am 2 51 (fun ι w v=>KI w v (a ι) ((fun ι=>(xs ι).take m) ι) (ez ι) m) N w v]
def JV (a:Nat->Bool) (xs:Nat->List Nat) (ez:Nat->Int) (n0 m:Nat) (j:Nat):List WP:=[Nz j,fun w v=>am 2 51 (fun ι w v=>KI w v (a ι) ((fun ι=>(xs ι).take m) ι) (ez ι) m) j w v,fun _ _=>True,Nz n0,fun w v=>Ptr 2 (fun w v=>aG w v (a j) (xs j)) w v,fun w v=>aG w v (a j) (xs j),fun w v=>KI w v (a j) ((xs j).take m) (ez j) m,fun w v=>am 2 51 (fun ι w v=>KI w v (a ι) ((fun ι=>(xs ι).take m) ι) (ez ι) m) (j+1) w v,Nz (j+1),Nz n0]
def xO:bj:=⟨[0,1,2,6],[(.slot 8,.i),(.slot 7,.s)],[(.one 0,4),(.one 1,.bZ [1] 5),(.one 1,.lo 1)],[.closed (.one (.ci .i64 0)),.closed (.one (.nl)),.frm 0],4,[(5,3)]⟩
def xP:List Step:=[bQ [.fact 0] [oN 7] (aI 28),
   bQ [.fact 4,.fact 7] oT (au .lss),
   bQ [.fact 4,.fact 1] oT (au .lss),
   bQ [.fact 0,.fact 4] [oP 8] (aO 28),
   bQ [.fact 8] [oI 9] (aS 51),
   .base ⟨65,[.fact 9,.fact 2],[oI 10],false⟩,
   .base ⟨0,[.fact 5,.row 2 [10]],[oS 11],.loose [] 1 0 (cU 28 28)⟩,
   bQ [.fact 4,.lit (.ci .i64 1)] [oN 12] (au .add)]
def JW:List Step:=[bQ [.fact 0] [oN 13] (aI 28),
   bQ [.fact 4,.fact 13] oT (au .lss),
   bQ [.fact 4,.fact 1] oF (au .lss)]
def JX:List Step:=[.loop xO [(xP,[.frm 12,.frm 11,.frm 0])] JW]
def JY:List Out:=[oS 0,oN 1,oN 2]
theorem JZ {a:Nat->Bool}{xs:Nat->List Nat}{ez:Nat->Int}{n0 K m N:Nat} (_hn:n0<=9223372036854775807) (hKm:K<=1000000) (hz:∀j,sg (a j) (Proofs.YthmcngjhkmpneaaGreat.val 4294967296 ((xs j).take m))=ez j) (hN:N=K) (hK:K<n0):ai (ph (q9 a xs ez n0 K m N)) Tryz.prog ⟨19,[.fact 0,.fact 1,.fact 2],[oS 3],false⟩:=by
 skip
 exact bg JY [oS 3] JX Tryz.func19 (by kernel_rfl)
  (bN (counted N (fun j=>ph (q9 a xs ez n0 K m N ++ JV a xs ez n0 m j)) (fun _=>0) (fun j p hp=>bO (show p<(q9 a xs ez n0 K m N).length from hp)) ⟨fun _=>rfl,fun w=>am.nil 2 51 (fun ι w v=>KI w v (a ι) ((fun ι=>(xs ι).take m) ι) (ez ι) m) w,bp,trivial⟩ (fun j hj=>by
   skip
   exact ⟨(xP,[.frm 12,.frm 11,.frm 0]),rfl,⟨ad,ad,bp,trivial⟩,(lB (a9 (F:=(fun ι w v=>aG w v (a ι) (xs ι))) Tryz.underlying28 ad rfl)
   (lB (cA ad ad)
   (lB (cA ad ad)
   (lB (b6 (i:=j) (F:=(fun ι w v=>aG w v (a ι) (xs ι))) Tryz.underlying28 (by kernel_rfl) ad ad (by omega) rfl)
   (lB (bK (sz:=2) (F:=fun w v=>aG w v (a j) (xs j)) (by kernel_rfl) (by kernel_rfl) ad (fun _ _ _ g h=>aG.kp h g) (fun _ _ h=>aG.is h) rfl)
   (lB (pt m ad ad rfl (hz j))
   (lB (mh (n:=j) (F:=(fun ι w v=>KI w v (a ι) ((fun ι=>(xs ι).take m) ι) (ez ι) m)) (fun _ _ _ _ g h=>KI.kp h g) ad ad (fun _ _ h=>KI.dm h) (by omega) rfl)
   (lB (cO ad (by omega) rfl (by omega) (by omega))
   aC))))))))⟩)
   (lB (a9 (F:=(fun ι w v=>aG w v (a ι) (xs ι))) Tryz.underlying28 ad rfl)
   (lB (cA ad ad)
   (lB (tlF ad ad)
   aC)))
   (fun q hq w v h=>by
    simp only [xO,List.mem_cons,List.not_mem_nil,or_false] at hq
    rcases hq with rfl
    ·exact (fun h=>h) h)) aC)
  (aK [.fact 0 (.one (.s)),.fact 1 (.one (.i)),.fact 2 (.one (.i))] ⟨Rw.Is 2 (fun ι w v=>aG w v (a ι) (xs ι)) n0,fun _ _ h=>h▸dl _,fun _ _ h=>h▸dl _,trivial⟩) (fun _ _ _ h=>h)
def rb (q:Nat->Rat) (n0 k:Nat):List WP:=[Rw 4 (Df q k) n0,Nz n0,Nz (tl (fun ι=>(q ι).num) n0),Rw 4 (Df q k) (tl (fun ι=>(q ι).num) n0)]
def J0 (q:Nat->Rat) (n0 k:Nat) (j:Nat):List WP:=[Nz (n0-j),Nz (n0-(j+1)),Ptr 4 (Dw (q (n0-(j+1))) k),fun w v=>Ptr 2 (fun w v=>ae w v ((q (n0-(j+1))).num) k) w v,fun w v=>ae w v ((q (n0-(j+1))).num) k,Nz (n0-(j+1))]
def xQ:bj:=⟨[0,2,4,5],[(.slot 3,.i)],[(.one 0,4)],[.frm 1],4,[(4,2)]⟩
def xR:List Step:=[bQ [.fact 4,.lit (.ci .i64 0)] oT (au .gtr),
   bQ [.fact 4,.lit (.ci .i64 1)] [oN 5] (au .sub),
   bQ [.fact 0,.fact 5] [oP 6] (aO 24),
   bQ [.fact 6] [oP 7] (fC 44 0),
   bQ [.fact 7] [oD 8] (aS 42),
   .base ⟨100,[.fact 8],oT,false⟩,
   bQ [.fact 4,.lit (.ci .i64 1)] [oN 9] (au .sub)]
def J1:List Step:=[bQ [.fact 4,.lit (.ci .i64 0)] oF (au .gtr)]
def J2:List Step:=[bQ [.fact 0] [oN 1] (aI 24),
   .loop xQ [(xR,[.frm 9])] J1,
   bQ [.fact 0,.fact 2] [oS 3] (dX 24)]
def J3:List Out:=[oS 0]
theorem J4 {q:Nat->Rat}{n0 k:Nat} (hn:n0<=1000000) (_hk:k<=500000) (ht:(tl (fun ι=>(q ι).num) n0)=0):ai (ph (rb q n0 k)) Tryz.prog ⟨53,[.fact 0],[oS 3],false⟩:=by
 have hle:=aV (fun ι=>(q ι).num) n0
 exact bg J3 [oS 3] J2 Tryz.func53 (by kernel_rfl)
  (lB (a9 (F:=(Df q k)) Tryz.underlying24 ad rfl)
   (bN (counted (n0-(tl (fun ι=>(q ι).num) n0)) (fun j=>ph (rb q n0 k ++ J0 q n0 k j)) (fun _=>0) (fun j p hp=>bO (show p<(rb q n0 k).length from hp)) ⟨ad,trivial⟩ (fun j hj=>by
   have h0:(q (n0-(j+1))).num=0:=fX (fun ι=>(q ι).num) n0 _ (by omega) (by omega)
   exact ⟨(xR,[.frm 9]),rfl,⟨ad,trivial⟩,(lB (fA ad)
   (lB (cI ad (by omega) rfl (by omega) (by omega))
   (lB (b6 (i:=(n0-(j+1))) (F:=(Df q k)) Tryz.underlying24 (by kernel_rfl) ad ad (by omega) rfl)
   (lB (gA (off:=0) (len:=2) (sz:=4) (F:=Dw (q (n0-(j+1))) k) (G:=fun w v=>ae w v ((q (n0-(j+1))).num) k) (by kernel_rfl) ad (by omega) (fun _ _ h=>ah.fst' h) rfl)
   (lB (bK (sz:=2) (F:=fun w v=>ae w v ((q (n0-(j+1))).num) k) (by kernel_rfl) (by kernel_rfl) ad (fun _ _ _ g h=>ae.kp h g) (fun _ _ h=>ae.is h) rfl)
   (lB (fP dD (decide_eq_true h0))
   (lB (cI ad (by omega) rfl (by omega) (by omega))
   aC)))))))⟩)
   (by
   have hle:=aV (fun ι=>(q ι).num) n0
   exact (lB (l9 ad)
   aC))
   (fun q hq w v h=>by
    simp only [xQ,List.mem_cons,List.not_mem_nil,or_false] at hq
    rcases hq with rfl
    ·exact (fun h=>h.trans (congrArg (Value.int .i64) (by have:=aV (fun ι=>(q ι).num) n0;omega))) h)) (lB (nf (m:=(tl (fun ι=>(q ι).num) n0)) (n:=n0) (F:=(Df q k)) Tryz.underlying24 (by kernel_rfl) ad ad (by first | omega | exact aV _ _) rfl)
   aC)))
  (aK [.fact 0 (.one (.s))] ⟨Rw.Is 4 (Df q k) n0,trivial⟩) bh
def rf (q:Nat->Rat) (n0 k:Nat):List WP:=[Rw 4 (Df q k) n0,Nz n0,Nz (tl (fun ι=>(q ι).num) n0),Rw 4 (Df q k) (tl (fun ι=>(q ι).num) n0)]
def J5 (q:Nat->Rat) (n0 k:Nat) (j:Nat):List WP:=[Nz (n0-j),Nz (n0-(j+1)),Ptr 4 (Dw (q (n0-(j+1))) k),fun w v=>Ptr 2 (fun w v=>ae w v ((q (n0-(j+1))).num) k) w v,fun w v=>ae w v ((q (n0-(j+1))).num) k,Nz (n0-(j+1)),Ni ((((tl (fun ι=>(q ι).num) n0)-1):Nat):Int),Ptr 4 (Dw (q ((tl (fun ι=>(q ι).num) n0)-1)) k),fun w v=>Ptr 2 (fun w v=>ae w v ((q ((tl (fun ι=>(q ι).num) n0)-1)).num) k) w v,fun w v=>ae w v ((q ((tl (fun ι=>(q ι).num) n0)-1)).num) k]
def xT:bj:=⟨[0,2,4,5],[(.slot 3,.i)],[(.one 0,4)],[.frm 1],4,[(4,2)]⟩
def xU:List Step:=[bQ [.fact 4,.lit (.ci .i64 0)] oT (au .gtr),
   bQ [.fact 4,.lit (.ci .i64 1)] [oN 5] (au .sub),
   bQ [.fact 0,.fact 5] [oP 6] (aO 24),
   bQ [.fact 6] [oP 7] (fC 44 0),
   bQ [.fact 7] [oD 8] (aS 42),
   .base ⟨100,[.fact 8],oT,false⟩,
   bQ [.fact 4,.lit (.ci .i64 1)] [oN 9] (au .sub)]
def J6:List Step:=[bQ [.fact 4,.lit (.ci .i64 0)] oT (au .gtr),
   bQ [.fact 4,.lit (.ci .i64 1)] [oN 10] (au .sub),
   bQ [.fact 0,.fact 10] [oP 11] (aO 24),
   bQ [.fact 11] [oP 12] (fC 44 0),
   bQ [.fact 12] [oD 13] (aS 42),
   .base ⟨100,[.fact 13],oF,false⟩]
def J7:List Step:=[bQ [.fact 0] [oN 1] (aI 24),
   .loop xT [(xU,[.frm 9])] J6,
   bQ [.fact 0,.fact 2] [oS 3] (dX 24)]
def J8:List Out:=[oS 0]
theorem J9 {q:Nat->Rat}{n0 k:Nat} (hn:n0<=1000000) (_hk:k<=500000) (ht:0<(tl (fun ι=>(q ι).num) n0)):ai (ph (rf q n0 k)) Tryz.prog ⟨53,[.fact 0],[oS 3],false⟩:=by
 have hle:=aV (fun ι=>(q ι).num) n0
 exact bg J8 [oS 3] J7 Tryz.func53 (by kernel_rfl)
  (lB (a9 (F:=(Df q k)) Tryz.underlying24 ad rfl)
   (bN (counted (n0-(tl (fun ι=>(q ι).num) n0)) (fun j=>ph (rf q n0 k ++ J5 q n0 k j)) (fun _=>0) (fun j p hp=>bO (show p<(rf q n0 k).length from hp)) ⟨ad,trivial⟩ (fun j hj=>by
   have h0:(q (n0-(j+1))).num=0:=fX (fun ι=>(q ι).num) n0 _ (by omega) (by omega)
   exact ⟨(xU,[.frm 9]),rfl,⟨ad,trivial⟩,(lB (fA ad)
   (lB (cI ad (by omega) rfl (by omega) (by omega))
   (lB (b6 (i:=(n0-(j+1))) (F:=(Df q k)) Tryz.underlying24 (by kernel_rfl) ad ad (by omega) rfl)
   (lB (gA (off:=0) (len:=2) (sz:=4) (F:=Dw (q (n0-(j+1))) k) (G:=fun w v=>ae w v ((q (n0-(j+1))).num) k) (by kernel_rfl) ad (by omega) (fun _ _ h=>ah.fst' h) rfl)
   (lB (bK (sz:=2) (F:=fun w v=>ae w v ((q (n0-(j+1))).num) k) (by kernel_rfl) (by kernel_rfl) ad (fun _ _ _ g h=>ae.kp h g) (fun _ _ h=>ae.is h) rfl)
   (lB (fP dD (decide_eq_true h0))
   (lB (cI ad (by omega) rfl (by omega) (by omega))
   aC)))))))⟩)
   (by
   have hle:=aV (fun ι=>(q ι).num) n0;have hl:=gy (fun ι=>(q ι).num) n0 ht
   exact (lB (fA ad)
   (lB (cI ad (by omega) rfl (by omega) (by omega))
   (lB (b6 (i:=((tl (fun ι=>(q ι).num) n0)-1)) (F:=(Df q k)) Tryz.underlying24 (by kernel_rfl) ad ad (by omega) rfl)
   (lB (gA (off:=0) (len:=2) (sz:=4) (F:=Dw (q ((tl (fun ι=>(q ι).num) n0)-1)) k) (G:=fun w v=>ae w v ((q ((tl (fun ι=>(q ι).num) n0)-1)).num) k) (by kernel_rfl) ad (by omega) (fun _ _ h=>ah.fst' h) rfl)
   (lB (bK (sz:=2) (F:=fun w v=>ae w v ((q ((tl (fun ι=>(q ι).num) n0)-1)).num) k) (by kernel_rfl) (by kernel_rfl) ad (fun _ _ _ g h=>ae.kp h g) (fun _ _ h=>ae.is h) rfl)
   (lB (fP dD (decide_eq_false hl))
   aC)))))))
   (fun q hq w v h=>by
    simp only [xT,List.mem_cons,List.not_mem_nil,or_false] at hq
    rcases hq with rfl
    ·exact (fun h=>h.trans (congrArg (Value.int .i64) (by have:=aV (fun ι=>(q ι).num) n0;omega))) h)) (lB (nf (m:=(tl (fun ι=>(q ι).num) n0)) (n:=n0) (F:=(Df q k)) Tryz.underlying24 (by kernel_rfl) ad ad (by first | omega | exact aV _ _) rfl)
   aC)))
  (aK [.fact 0 (.one (.s))] ⟨Rw.Is 4 (Df q k) n0,trivial⟩) bh
section
variable {Φ:PH}{p x n k:Nat}{q:Nat->Rat}
theorem kD (hp:∀w v,Φ p w v->Rw 4 (Df q k) n w v) (hx:Φ x=Rw 4 (Df q k) (tl (fun i=>(q i).num) n)) (hn:n<=1000000) (hk:k<=500000):ai Φ Tryz.prog ⟨53,[.fact p],[oS x],false⟩:=by
 rcases Nat.eq_zero_or_pos (tl (fun i=>(q i).num) n) with h | h
 ·exact bi (J4 hn hk h) ⟨hp,trivial⟩ ⟨⟨rfl,⟨rfl,rfl,fun _ _ h=>hx▸h⟩,trivial⟩,trivial⟩
 ·exact bi (J9 hn hk h) ⟨hp,trivial⟩ ⟨⟨rfl,⟨rfl,rfl,fun _ _ h=>hx▸h⟩,trivial⟩,trivial⟩
end
def ri (z:Nat->Int) (n:Nat):List WP:=[fun w v=>Rw 1 (fun i _ v=>v = .agg #[.int .i64 (z i)]) n w v,Nz n,fun w v=>am 4 44 (fun ι w v=>ah w v (((z ι:Int):Rat)) 6) n w v,fun w v=>Rw 4 (fun ι w v=>ah w v (((z ι:Int):Rat)) 6) (tl (fun ι=>(((z ι:Int):Rat)).num) n) w v]
def Kf (z:Nat->Int) (j:Nat):List WP:=[Nz j,fun w v=>am 4 44 (fun ι w v=>ah w v (((z ι:Int):Rat)) 6) j w v,fun _ _=>True,fun w v=>Ptr 1 (fun _ v=>v = .agg #[.int .i64 (z j)]) w v,Ni (z j),Dw (aD (z j) 1) 6,fun w v=>ae w v ((aD (z j) 1).num) 6,fun w v=>ae w v ((aD (z j) 1).den:Int) 6,fun w v=>am 4 44 (fun ι w v=>ah w v (((z ι:Int):Rat)) 6) (j+1) w v,Nz (j+1)]
def xX:bj:=⟨[0,2,5,6],[(.slot 7,.i),(.slot 3,.s)],[(.one 0,4),(.one 1,.bZ [1] 5),(.one 1,.lo 1)],[.closed (.one (.ci .i64 0)),.closed (.one (.nl)),.frm 0],4,[(5,2)]⟩
def xY:List Step:=[bQ [.fact 4,.fact 1] oT (au .lss),
   bQ [.fact 0,.fact 4] [oP 7] (aO 22),
   bQ [.fact 7] [oN 8] (aS 3),
   .base ⟨38,[.fact 8,.lit (.ci .i64 1)],[⟨.agg [.s,.b,.s,.b],[(0,0,9),(0,2,10),(2,2,11)]⟩],false⟩,
   .base ⟨0,[.fact 5,.row 4 [9]],[oS 12],.loose [] 1 0 (cU 24 24)⟩,
   bQ [.fact 4,.lit (.ci .i64 1)] [oN 13] (au .add)]
def Kg:List Step:=[bQ [.fact 4,.fact 1] oF (au .lss)]
def Kh:List Step:=[bQ [.fact 0] [oN 1] (aI 22),
   .loop xX [(xY,[.frm 13,.frm 12,.frm 0])] Kg,
   .base ⟨53,[.fact 2],[oS 3],.c9 [1] false⟩]
def Kj:List Out:=[oS 0]
theorem rof {z:Nat->Int}{n:Nat} (hn:n<=1000000) (hz:∀i,-9223372036854775808<=z i∧z i<=9223372036854775807):ai (ph (ri z n)) Tryz.prog ⟨47,[.fact 0],[oS 3],false⟩:=by
 skip
 exact bg Kj [oS 3] Kh Tryz.func47 (by kernel_rfl)
  (lB (a9 (F:=(fun i _ v=>v = .agg #[.int .i64 (z i)])) Tryz.underlying22 ad rfl)
   (bN (counted n (fun j=>ph (ri z n ++ Kf z j)) (fun _=>0) (fun j p hp=>bO (show p<(ri z n).length from hp)) ⟨fun _=>rfl,fun w=>am.nil 4 44 (fun ι w v=>ah w v (((z ι:Int):Rat)) 6) w,bp,trivial⟩ (fun j hj=>by
   skip
   exact ⟨(xY,[.frm 13,.frm 12,.frm 0]),rfl,⟨ad,ad,bp,trivial⟩,(lB (cA ad ad)
   (lB (b6 (i:=j) (F:=(fun i _ v=>v = .agg #[.int .i64 (z i)])) Tryz.underlying22 (by kernel_rfl) ad ad (by omega) rfl)
   (lB (wO (by kernel_rfl) ad rfl)
   (lB (JM (y:=1) ad rfl rfl rfl (by have:=hz j;omega) (by have:=hz j;omega) (by decide) (by decide) rfl)
   (lB (mB (n:=j) (F:=(fun ι w v=>ah w v (((z ι:Int):Rat)) 6)) (fun _ _ _ _ g h=>ah.kp h g) ad (fun _ _ h=>h.eq (mt _)) (fun _ _ h=>ah.dm h) (by omega) rfl)
   (lB (cO ad (by omega) rfl (by omega) (by omega))
   aC))))))⟩)
   (lB (tlF ad ad)
   aC)
   (fun q hq w v h=>by
    simp only [xX,List.mem_cons,List.not_mem_nil,or_false] at hq
    rcases hq with rfl
    ·exact (fun h=>h) h)) (lB (dZ [1] (kD (q:=(fun ι=>((z ι:Int):Rat))) (n:=n) (k:=6) (fun _ _ h=>am.rw h) rfl (by omega) (by omega)))
   aC)))
  (aK [.fact 0 (.one (.s))] ⟨Rw.Is 1 (fun i _ v=>v = .agg #[.int .i64 (z i)]) n,trivial⟩) bh
def rj (z:Nat->Int) (n k kq:Nat):List WP:=[fun w v=>Rw 4 (fun ι w v=>ah w v (((z ι:Int):Rat)) kq) n w v,Rw 2 (Nf z k) n,Nz n,Nz n,Nz n]
def Kk (z:Nat->Int) (k kq:Nat) (j:Nat):List WP:=[Nz j,Ptr 4 (Dw (((z j:Int):Rat)) kq),fun w v=>Ptr 2 (fun w v=>ae w v ((((z j:Int):Rat)).num) kq) w v,fun w v=>ae w v ((((z j:Int):Rat)).num) kq,Ptr 2 (Nw (z j) k),Nw (z j) k,Ptr 4 (Dw (((z j:Int):Rat)) kq),fun w v=>Ptr 2 (fun w v=>ae w v ((((z j:Int):Rat)).den:Int) kq) w v,fun w v=>ae w v ((((z j:Int):Rat)).den:Int) kq,fun w v=>ae w v (1:Int) 2,Nz (j+1)]
def Kl:bj:=⟨[0,1,4,6,7,8,9,10,11,12],[(.slot 13,.i)],[(.one 0,5)],[.closed (.one (.ci .i64 0))],5,[]⟩
def xZ:List Step:=[bQ [.fact 5,.fact 4] oT (au .lss),
   bQ [.fact 0,.fact 5] [oP 6] (aO 24),
   bQ [.fact 6] [oP 7] (fC 44 0),
   bQ [.fact 7] [oD 8] (aS 42),
   bQ [.fact 1,.fact 5] [oP 9] (aO 28),
   bQ [.fact 9] [oI 10] (aS 51),
   .base ⟨84,[.fact 8,.fact 10],oT,false⟩,
   bQ [.fact 0,.fact 5] [oP 11] (aO 24),
   bQ [.fact 11] [oP 12] (fC 44 1),
   bQ [.fact 12] [oD 13] (aS 42),
   .base ⟨64,[.lit (.ci .i64 1)],[oD 14],false⟩,
   .base ⟨103,[.fact 13,.fact 14],[oL (.ci .i64 0)],false⟩,
   bQ [.fact 5,.lit (.ci .i64 1)] [oN 15] (au .add)]
def Km:List Step:=[bQ [.fact 5,.fact 4] oF (au .lss)]
def Kn:List Step:=[bQ [.fact 0] [oN 2] (aI 24),
   bQ [.fact 1] [oN 3] (aI 28),
   bQ [.fact 2,.fact 3] oF (au .neq),
   bQ [.fact 0] [oN 4] (aI 24),
   .loop Kl [(xZ,[.frm 15])] Km]
def Ko:List Out:=[oS 0,oS 1]
theorem Kq {z:Nat->Int}{n k kq:Nat} (hn:n<=1000000) (hkq:kq<=500000) (_hk:k<=500000):ai (ph (rj z n k kq)) Tryz.prog ⟨56,[.fact 0,.fact 1],oT,false⟩:=by
 skip
 exact bg Ko oT Kn Tryz.func56 (by kernel_rfl)
  (lB (a9 (F:=(fun ι w v=>ah w v (((z ι:Int):Rat)) kq)) Tryz.underlying24 ad rfl)
   (lB (a9 (F:=(Nf z k)) Tryz.underlying28 ad rfl)
   (lB (p9 (op:=.neq) ad ad (cw (decide_eq_false (fun h=>h rfl)) (by simp)))
   (lB (a9 (F:=(fun ι w v=>ah w v (((z ι:Int):Rat)) kq)) Tryz.underlying24 ad rfl)
   (bN (counted n (fun j=>ph (rj z n k kq ++ Kk z k kq j)) (fun _=>0) (fun j p hp=>bO (show p<(rj z n k kq).length from hp)) ⟨fun _=>rfl,trivial⟩ (fun j hj=>by
   skip
   exact ⟨(xZ,[.frm 15]),rfl,⟨ad,trivial⟩,(lB (cA ad ad)
   (lB (b6 (i:=j) (F:=(fun ι w v=>ah w v (((z ι:Int):Rat)) kq)) Tryz.underlying24 (by kernel_rfl) ad ad (by omega) rfl)
   (lB (gA (off:=0) (len:=2) (sz:=4) (F:=Dw (((z j:Int):Rat)) kq) (G:=fun w v=>ae w v ((((z j:Int):Rat)).num) kq) (by kernel_rfl) ad (by omega) (fun _ _ h=>ah.fst' h) rfl)
   (lB (bK (sz:=2) (F:=fun w v=>ae w v ((((z j:Int):Rat)).num) kq) (by kernel_rfl) (by kernel_rfl) ad (fun _ _ _ g h=>ae.kp h g) (fun _ _ h=>ae.is h) rfl)
   (lB (b6 (i:=j) (F:=(Nf z k)) Tryz.underlying28 (by kernel_rfl) ad ad (by omega) rfl)
   (lB (bK (sz:=2) (F:=Nw (z j) k) (by kernel_rfl) (by kernel_rfl) ad (fun _ _ _ g h=>ak.kp h g) (fun _ _ h=>ak.is h) rfl)
   (lB (ui dD nN (by omega) rfl rfl)
   (lB (b6 (i:=j) (F:=(fun ι w v=>ah w v (((z ι:Int):Rat)) kq)) Tryz.underlying24 (by kernel_rfl) ad ad (by omega) rfl)
   (lB (gA (off:=2) (len:=2) (sz:=4) (F:=Dw (((z j:Int):Rat)) kq) (G:=fun w v=>ae w v ((((z j:Int):Rat)).den:Int) kq) (by kernel_rfl) ad (by omega) (fun _ _ h=>ah.snd' h) rfl)
   (lB (bK (sz:=2) (F:=fun w v=>ae w v ((((z j:Int):Rat)).den:Int) kq) (by kernel_rfl) (by kernel_rfl) ad (fun _ _ _ g h=>ae.kp h g) (fun _ _ h=>ae.is h) rfl)
   (lB (ko (z:=1) rfl (by decide) (by decide) rfl)
   (lB (JN dD dD (by omega) (JL _))
   (lB (cO ad (by omega) rfl (by omega) (by omega))
   aC)))))))))))))⟩)
   (lB (tlF ad ad)
   aC)
   (fun q hq=>by cases hq)) aC)))))
  (aK [.fact 0 (.one (.s)),.fact 1 (.one (.s))] ⟨Rw.Is 4 (fun ι w v=>ah w v (((z ι:Int):Rat)) kq) n,Rw.Is 2 (Nf z k) n,trivial⟩) bh
section
variable {Φ:PH}{p q x n k kq:Nat}{z:Nat->Int}
theorem CZ (hp:∀w v,Φ p w v->Rw 4 (fun i w v=>ah w v ((z i:Int):Rat) kq) n w v) (hq:∀w v,Φ q w v->Rw 2 (Nf z k) n w v) (hn:n<=1000000) (hkq:kq<=500000) (hk:k<=500000):ai Φ Tryz.prog ⟨56,[.fact p,.fact q],oT,false⟩:=
 bi (Kq hn hkq hk) ⟨hp,hq,trivial⟩ ⟨⟨rfl,trivial⟩,trivial⟩
end
section
variable {Φ:PH}{p q r x n n0 k K m kq:Nat}{z:Nat->Int}
theorem x4 {k:Nat}{L:List Int}{w:World}{v:Value} (hL:aP (mk n z)=L) (h:Rw 4 (fun i w v=>ah w v ((z i:Int):Rat) k) (tl z n) w v):Rw 4 (fun i w v=>ah w v ((an L i:Int):Rat) k) L.length w v:=by
 subst hL
 exact Rw.len (Rw.to h fun i w v hi h=>by show ah w v ((an _ i:Int):Rat) k;rw [<- xK (Nat.lt_of_lt_of_le hi (aV _ _)),fH (Nat.lt_of_lt_of_le hi (aV _ _))];exact h) (by rw [fe])
theorem CY {L:List Int} (hp:∀w v,Φ p w v->Rw 1 (fun i _ v=>v = .agg #[.int .i64 (z i)]) n w v) (hx:Φ x=fun w v=>Rw 4 (fun i w v=>ah w v ((an L i:Int):Rat) 6) L.length w v) (hn:n<=1000000) (hz:∀i,-9223372036854775808<=z i∧z i<=9223372036854775807) (hL:aP (mk n z)=L):ai Φ Tryz.prog ⟨47,[.fact p],[oS x],false⟩:=
 bi (rof hn hz) ⟨hp,trivial⟩ ⟨⟨rfl,⟨rfl,rfl,fun _ _ h=>hx▸x4 hL h⟩,trivial⟩,trivial⟩
theorem ud {a:Nat->Bool}{xs:Nat->List Nat} (K m:Nat) (hp:∀w v,Φ p w v->Rw 2 (fun i w v=>aG w v (a i) (xs i)) n0 w v) (hq:∀w v,Φ q w v->v = .int .i64 (K:Int)) (hr:∀w v,Φ r w v->v = .int .i64 (m:Int)) (hx:Φ x=fun w v=>Rw 2 (fun i w v=>KI w v (a i) ((xs i).take m) (z i) m) n w v) (hn:n0<=9223372036854775807) (hKm:K<=1000000) (hz:∀j,sg (a j) (Proofs.YthmcngjhkmpneaaGreat.val 4294967296 ((xs j).take m))=z j) (hN:min n0 K=n) :
  ai Φ Tryz.prog ⟨19,[.fact p,.fact q,.fact r],[oS x],false⟩:=by
 rcases Nat.lt_or_ge K n0 with h | h
 ·exact bi (JZ (N:=n) hn hKm hz (by omega) h) ⟨hp,hq,hr,trivial⟩ ⟨⟨rfl,⟨rfl,rfl,fun _ _ h=>hx▸am.rw (e:=51) h⟩,trivial⟩,trivial⟩
 ·exact bi (JU (N:=n) hn hKm hz (by omega) (by omega)) ⟨hp,hq,hr,trivial⟩ ⟨⟨rfl,⟨rfl,rfl,fun _ _ h=>hx▸am.rw (e:=51) h⟩,trivial⟩,trivial⟩
end
end Go.Proofs.YthmcngjhkmpneaaGreat.Sym
