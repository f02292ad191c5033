/- poly.trim -/
import Derived.Test.YtbjfgffibepmkaaGreatCatA
set_option maxRecDepth 100000
namespace Go.Proofs.YtbjfgffibepmkaaGreat.Sym
open Go.Proofs.Tryz
open Go.RowKit
variable {ez f z:Nat->Int}{F:PH}{K N i k m n n0:Nat}{w:World}{v:Value}{b:Bool}{xs:List Nat}{l:List Value}{q:Rat}{y:Int}{a:Nat->Bool}{L:List Int}
theorem yX {z:Int} (h:dG z 0=0):z=0:=by
 unfold dG at h
 split at h
 ·cases h
 ·split at h
  ·assumption
  ·cases h
def jU (Ψ Φ:PH):List (Nat×Nat×Nat)->List (Nat×Nat×Nat)->Prop
 | [],[]=>True
 | a :: l,b :: m=>(a.1=b.1∧a.2.1=b.2.1∧∀w v,Ψ a.2.2 w v->Φ b.2.2 w v)∧jU Ψ Φ l m
 | _,_=>False
theorem jU.ok {Φ Ψ:PH}{X:Nat->Prop}{w:World}{v:Value}:∀{l m:List (Nat×Nat×Nat)},jU Ψ Φ l m->(∀q,q ∈ l->∀w1,Off X w w1->Ψ q.2.2 w1 (bn q.1 q.2.1 v))->∀q,q ∈ m->∀w1,Off X w w1->Φ q.2.2 w1 (bn q.1 q.2.1 v)
 | [],[],_,_,q,hq,_,_=>by cases hq
 | a :: l,b :: m,h,ha,q,hq,w1,hw=>by
  rcases List.mem_cons.1 hq with rfl | hq
  ·have:=ha a (List.mem_cons_self ..) w1 hw
   rw [<- h.1.1,<- h.1.2.1]
   exact h.1.2.2 _ _ this
  ·exact jU.ok h.2 (fun q hq=>ha q (List.mem_cons_of_mem _ hq)) q hq w1 hw
def mz (Φ Ψ:PH) (p:Nat):List (Nat×Nat×Nat)->Prop
 | []=>True
 | q :: l=>(∀w v,Φ p w v->Ψ q.2.2 w (bn q.1 q.2.1 v))∧mz Φ Ψ p l
theorem mz.ok {Φ Ψ:PH}{p:Nat}:∀{l:List (Nat×Nat×Nat)},mz Φ Ψ p l->∀q,q ∈ l->∀w v,Φ p w v->Ψ q.2.2 w (bn q.1 q.2.1 v)
 | _ :: l,h,q,hq=>by
  rcases List.mem_cons.1 hq with rfl | hq
  ·exact h.1
  ·exact mz.ok h.2 q hq
def fF (Φ Ψ:PH):List Arg->List Arg->Prop
 | [],[]=>True
 | .fact p :: l,.fact q :: m=>(∀w v,Φ p w v->Ψ q w v)∧fF Φ Ψ l m
 | .lit a :: l,.lit b :: m=>a=b∧fF Φ Ψ l m
 | .lit a :: l,.fact q :: m=>(∀w,Ψ q w (a.ev cV))∧fF Φ Ψ l m
 | .any :: l,.any :: m=>fF Φ Ψ l m
 | .parts sh fs :: l,.parts sh' fs' :: m=>(sh=sh'∧jU Φ Ψ fs fs')∧fF Φ Ψ l m
 | .fact p :: l,.parts sh fs :: m=>((∀w v,Φ p w v->sh.is v)∧mz Φ Ψ p fs)∧fF Φ Ψ l m
 | _,_=>False
def kZ (Ψ Φ:PH):List Out->List Out->Prop
 | [],[]=>True
 | a :: l,b :: m=>(a.sh=b.sh∧jU Ψ Φ a.fs b.fs)∧kZ Ψ Φ l m
 | _,_=>False
theorem fF.ok {Φ Ψ:PH}{X:Nat->Prop}{w:World}:∀{l m:List Arg}{vs:List Value},fF Φ Ψ l m->cQ Φ X w l vs->cQ Ψ X w m vs
 | [],[],[],_,_=>trivial
 | .fact _ :: _,.fact _ :: _,_ :: _,h,ha=>⟨fun w1 hw=>h.1 _ _ (ha.1 w1 hw),fF.ok h.2 ha.2⟩
 | .lit _ :: _,.lit _ :: _,_ :: _,h,ha=>⟨h.1▸ha.1,fF.ok h.2 ha.2⟩
 | .any :: _,.any :: _,_ :: _,h,ha=>⟨trivial,fF.ok h ha.2⟩
 | .lit _ :: _,.fact _ :: _,_ :: _,h,ha=>⟨fun w1 _=>by rw [show _=_ from ha.1];exact h.1 w1,fF.ok h.2 ha.2⟩
 | .parts _ _ :: _,.parts _ _ :: _,_ :: _,h,ha=>⟨⟨h.1.1▸ha.1.1,jU.ok h.1.2 ha.1.2⟩,fF.ok h.2 ha.2⟩
 | .fact _ :: _,.parts _ _ :: _,_ :: _,h,ha=>⟨⟨h.1.1 _ _ (get ha.1),fun q hq w1 hw=>mz.ok h.1.2 q hq w1 _ (ha.1 w1 hw)⟩,fF.ok h.2 ha.2⟩
theorem kZ.ok {Φ Ψ:PH}{X:Nat->Prop}{w:World}:∀{l m:List Out}{us:List Value},kZ Ψ Φ l m->ch Ψ X w l us->ch Φ X w m us
 | [],[],[],_,_=>trivial
 | _ :: _,_ :: _,_ :: _,h,ha=>⟨⟨h.1.1▸ha.1.1,jU.ok h.1.2 ha.1.2⟩,kZ.ok h.2 ha.2⟩
theorem aT {P:Program}{Φ Ψ:PH}{f:FuncId}{ar ot:List Arg}{outs ou:List Out}{bz:Bool} (h:aj Ψ P ⟨f,ot,ou,.call bz⟩) (ha:fF Φ Ψ ar ot) (ho:kZ Ψ Φ ou outs):aj Φ P ⟨f,ar,outs,.call bz⟩:=
 fun X w vs hX h'=>(h X w vs hX (ha.ok h')).mono fun _ _w' ⟨hg,us,he,h2⟩=>⟨hg,us,he,ho.ok h2⟩
def uX (F:PH) (z:Nat->Int) (n0:Nat):List WP:=[Rw 2 F n0,Nz n0,Ni ((tl z n0:Nat):Int),Rw 2 F (tl z n0)]
def QP (F:PH) (z:Nat->Int) (n0:Nat) (j:Nat):List WP:=[Nz (n0-j),Nz (n0-(j+1)),Ptr 2 (F (n0-(j+1))),F (n0-(j+1)),Nw 0 0,Ni (dG (z (n0-(j+1))) (0:Int)),Nz (n0-(j+1))]
def CR:bJ:=⟨[0,2,4,5],[(.slot 3,.i)],[(.one 0,4)],[.frm 1],4,[(4,2)]⟩
def CS:List Step:=[.derive (.agg [.cb false,.nl]) (.agg [.lit (.cb false),.lit (.nl)]) [] 8,bQ [4,.lit (.ci .i64 0)] oT (au .gtr),bQ [4,.lit (.ci .i64 1)] [oN 5] (au .sub),bQ [0,5] [oP 6] (aN 24),bQ [6] [oI 7] (aO 27),.base ⟨138,[7,8],[oN 9],false⟩,bQ [9,.lit (.ci .i64 0)] oT (au .eql),bQ [4,.lit (.ci .i64 1)] [oN 10] (au .sub)]
def QQ:List Step:=[bQ [4,.lit (.ci .i64 0)] oF (au .gtr)]
def QR:List Step:=[bQ [0] [oN 1] (aK 24),.loop CR [(CS,[.frm 10])] QQ,bQ [0,2] [oS 3] (er 24)]
def QS:List Out:=[oS 0]
theorem QT  (hF:∀i w v,F i w v->aF w v (z i) k) (hK:∀i w w1 v,Kp w w1->F i w v->F i w1 v) (hn:n0<=1000000) (hk:k<=500000) (ht:tl z n0=0):aj (ph (uX F z n0)) prog ⟨105,[0],[oS 3],false⟩:=by
 have hle:=bi z n0
 exact aQ QS [oS 3] QR func105 (by kernel_rfl) (lB (aS (F:=F) underlying24 ad rfl) (cm (counted (n0-tl z n0) (fun j=>ph (uX F z n0 ++ QP F z n0 j)) (fun _=>0) (fun j p hp=>cn (show p<(uX F z n0).length from hp)) ⟨ad,trivial⟩ (fun j hj=>by
   have h0:z (n0-(j+1))=0:=iG z n0 _ (by omega) (by omega)
   exact ⟨(CS,[.frm 10]),rfl,⟨ad,trivial⟩,(ba (kM rfl) (lB (gB ad) (lB (eg ad rfl) (lB (co (i:=(n0-(j+1))) (F:=F) underlying24 ad ad rfl) (lB (cU (sz:=2) (F:=F (n0-(j+1))) ad (fun w w1 v g h=>hK (n0-(j+1)) w w1 v g h) (fun w v h=>aF.is (hF (n0-(j+1)) w v h)) rfl) (lB (mf (hF (n0-(j+1))) nI rfl rfl) (lB (cB (op:=.eql) ad (cj (decide_eq_true (by rw [h0];rfl)) (by simp))) (lB (eg ad rfl) aD))))))))⟩)
   (by
   have hle:=bi z n0
   exact (lB (kD ad) aD))
   (fun q hq w v h=>by
    simp only [CR,List.mem_cons,List.not_mem_nil,or_false] at hq
    rcases hq with rfl
    ·exact (fun h=>h.trans (congrArg (Value.int .i64) (by have:=bi z n0;omega))) h)) (lB (mo (m:=(tl z n0)) (n:=n0) (F:=F) underlying24 ad ad (by first | omega | exact bi _ _) rfl) aD)))
  (aM [.fact 0 (.one (.s))] ⟨Rw.Is 2 F n0,trivial⟩) aV
def uY (F:PH) (z:Nat->Int) (n0:Nat):List WP:=[Rw 2 F n0,Nz n0,Ni ((tl z n0:Nat):Int),Rw 2 F (tl z n0)]
def QU (F:PH) (z:Nat->Int) (n0:Nat) (j:Nat):List WP:=[Nz (n0-j),Nz (n0-(j+1)),Ptr 2 (F (n0-(j+1))),F (n0-(j+1)),Nw 0 0,Ni (dG (z (n0-(j+1))) (0:Int)),Nz (n0-(j+1)),Nz (tl z n0-1),Ptr 2 (F (tl z n0-1)),F (tl z n0-1),Nw 0 0,Ni (dG (z (tl z n0-1)) (0:Int))]
def CT:bJ:=⟨[0,2,4,5],[(.slot 3,.i)],[(.one 0,4)],[.frm 1],4,[(4,2)]⟩
def CU:List Step:=[.derive (.agg [.cb false,.nl]) (.agg [.lit (.cb false),.lit (.nl)]) [] 8,bQ [4,.lit (.ci .i64 0)] oT (au .gtr),bQ [4,.lit (.ci .i64 1)] [oN 5] (au .sub),bQ [0,5] [oP 6] (aN 24),bQ [6] [oI 7] (aO 27),.base ⟨138,[7,8],[oN 9],false⟩,bQ [9,.lit (.ci .i64 0)] oT (au .eql),bQ [4,.lit (.ci .i64 1)] [oN 10] (au .sub)]
def QW:List Step:=[.derive (.agg [.cb false,.nl]) (.agg [.lit (.cb false),.lit (.nl)]) [] 14,bQ [4,.lit (.ci .i64 0)] oT (au .gtr),bQ [4,.lit (.ci .i64 1)] [oN 11] (au .sub),bQ [0,11] [oP 12] (aN 24),bQ [12] [oI 13] (aO 27),.base ⟨138,[13,14],[oN 15],false⟩,bQ [15,.lit (.ci .i64 0)] oF (au .eql)]
def QX:List Step:=[bQ [0] [oN 1] (aK 24),.loop CT [(CU,[.frm 10])] QW,bQ [0,2] [oS 3] (er 24)]
def QY:List Out:=[oS 0]
theorem QZ  (hF:∀i w v,F i w v->aF w v (z i) k) (hK:∀i w w1 v,Kp w w1->F i w v->F i w1 v) (hn:n0<=1000000) (hk:k<=500000) (ht:0<tl z n0):aj (ph (uY F z n0)) prog ⟨105,[0],[oS 3],false⟩:=by
 have hle:=bi z n0
 exact aQ QY [oS 3] QX func105 (by kernel_rfl) (lB (aS (F:=F) underlying24 ad rfl) (cm (counted (n0-tl z n0) (fun j=>ph (uY F z n0 ++ QU F z n0 j)) (fun _=>0) (fun j p hp=>cn (show p<(uY F z n0).length from hp)) ⟨ad,trivial⟩ (fun j hj=>by
   have h0:z (n0-(j+1))=0:=iG z n0 _ (by omega) (by omega)
   exact ⟨(CU,[.frm 10]),rfl,⟨ad,trivial⟩,(ba (kM rfl) (lB (gB ad) (lB (eg ad rfl) (lB (co (i:=(n0-(j+1))) (F:=F) underlying24 ad ad rfl) (lB (cU (sz:=2) (F:=F (n0-(j+1))) ad (fun w w1 v g h=>hK (n0-(j+1)) w w1 v g h) (fun w v h=>aF.is (hF (n0-(j+1)) w v h)) rfl) (lB (mf (hF (n0-(j+1))) nI rfl rfl) (lB (cB (op:=.eql) ad (cj (decide_eq_true (by rw [h0];rfl)) (by simp))) (lB (eg ad rfl) aD))))))))⟩)
   (by
   have hle:=bi z n0;have hl:=gE z n0 ht
   exact (ba (kM rfl) (lB (gB ad) (lB (eg ad rfl) (lB (co (i:=(tl z n0-1)) (F:=F) underlying24 ad ad rfl) (lB (cU (sz:=2) (F:=F (tl z n0-1)) ad (fun w w1 v g h=>hK (tl z n0-1) w w1 v g h) (fun w v h=>aF.is (hF (tl z n0-1) w v h)) rfl) (lB (mf (hF (tl z n0-1)) nI rfl rfl) (lB (cB (op:=.eql) ad (cj (decide_eq_false (fun h=>hl (yX h))) (by simp))) aD))))))))
   (fun q hq w v h=>by
    simp only [CT,List.mem_cons,List.not_mem_nil,or_false] at hq
    rcases hq with rfl
    ·exact (fun h=>h.trans (congrArg (Value.int .i64) (by have:=bi z n0;omega))) h)) (lB (mo (m:=(tl z n0)) (n:=n0) (F:=F) underlying24 ad ad (by first | omega | exact bi _ _) rfl) aD)))
  (aM [.fact 0 (.one (.s))] ⟨Rw.Is 2 F n0,trivial⟩) aV
section
variable {Φ:PH}{p x:Nat}
theorem ig (hp:∀w v,Φ p w v->Rw 2 F n w v) (hF:∀i w v,F i w v->aF w v (z i) k) (hK:∀i w w1 v,Kp w w1->F i w v->F i w1 v) (hx:Φ x=Rw 2 F (tl z n)) (hn:n<=1000000:=by omega) (hk:k<=500000:=by omega):aj Φ prog ⟨105,[.fact p],[oS x],false⟩:=by
 rcases Nat.eq_zero_or_pos (tl z n) with h | h
 ·exact aT (QT hF hK hn hk h) ⟨hp,trivial⟩ ⟨⟨rfl,⟨rfl,rfl,fun _ _ h=>hx▸h⟩,trivial⟩,trivial⟩
 ·exact aT (QZ hF hK hn hk h) ⟨hp,trivial⟩ ⟨⟨rfl,⟨rfl,rfl,fun _ _ h=>hx▸h⟩,trivial⟩,trivial⟩
end
def uZ (z:Nat->Int) (n:Nat):List WP:=[fun w v=>Rw 1 (fun i _ v=>v = .agg #[.int .i64 (z i)]) n w v,Nz n,aC 2 27 (Nf (upto 0 z) 2) n,Nz n,aC 2 27 (Nf (upto n z) 2) n,Rw 2 (Nf (upto n z) 2) (tl (upto n z) n)]
def Rb (z:Nat->Int) (n:Nat) (j:Nat):List WP:=[Nz j,aC 2 27 (Nf (upto j z) 2) n,fun _ _=>True,fun w v=>Ptr 1 (fun _ v=>v = .agg #[.int .i64 (z j)]) w v,Ni (z j),Nw (z j) 2,At 2,Ptr 2 (Nw ((upto j z) j) 2),fun w v=>aC 2 27 (fun i w v=>ak w v ((upto (j+1) z) i) 2) n w v,Nz (j+1)]
def CV:bJ:=⟨[0,2,6,7,8,9,10],[(.slot 11,.i),(.slot 3,.s)],[(.one 0,6),(.one 1,.cD [1] 7),(.one 1,.lo 1)],[.closed (.one (.ci .i64 0)),.frm 2,.frm 0],6,[(7,4)]⟩
def CW:List Step:=[bQ [6,3] oT (au .lss),bQ [0,6] [oP 9] (aN 49),bQ [9] [oN 10] (aO 3),.base ⟨104,[10],[oI 11],false⟩,.base ⟨0,[7,6],[oP 13],.joint [1] 12 (aN 24)⟩,.base ⟨0,[7,6,.any,11],[oS 14],.put [] 1 0 12 (fB 27 (.tmp 16) (.tmp 17))⟩,bQ [6,.lit (.ci .i64 1)] [oN 15] (au .add)]
def Rc:List Step:=[bQ [6,3] oF (au .lss)]
def Rd:List Step:=[bQ [0] [oN 1] (aK 49),.base ⟨0,[1,1],[oS 2],.loose [] 1 0 (fK 24)⟩,bQ [0] [oN 3] (aK 49),.loop CV [(CW,[.frm 15,.frm 14,.frm 0])] Rc,.base ⟨105,[4],[oS 5],.dF [1] false⟩]
def Re:List Out:=[oS 0]
theorem pof  (hn:n<=1000000) (hz:∀i,-9223372036854775808<=z i∧z i<=9223372036854775807):aj (ph (uZ z n)) prog ⟨65,[0],[oS 5],false⟩:=aQ Re [oS 5] Rd func65 (by kernel_rfl) (lB (aS (F:=(fun i _ v=>v = .agg #[.int .i64 (z i)])) underlying49 ad rfl) (lB (kN (n:=n) (F:=(Nf (upto 0 z) 2)) ad (fun i w=>ak.zero w 2) rfl) (lB (aS (F:=(fun i _ v=>v = .agg #[.int .i64 (z i)])) underlying49 ad rfl) (cm (counted n (fun j=>ph (uZ z n ++ Rb z n j)) (fun _=>0) (fun j p hp=>cn (show p<(uZ z n).length from hp)) ⟨fun _=>rfl,ad,bS,trivial⟩ (fun j hj=>by
   skip
   exact ⟨(CW,[.frm 15,.frm 14,.frm 0]),rfl,⟨ad,ad,bS,trivial⟩,(lB (bH ad ad) (lB (co (i:=j) (F:=(fun i _ v=>v = .agg #[.int .i64 (z i)])) underlying49 ad ad rfl) (lB (BW ad rfl) (lB (Rf ad rfl (by have:=hz j;omega) (by have:=hz j;omega) rfl) (lB (fL (i:=j) (sz:=2) (n:=n) (F:=(Nf (upto j z) 2)) underlying24 (fun _ _ h=>aC.arr h) ad rfl rfl) (lB (iz (i:=j) (n:=n) (F:=(fun i w v=>ak w v ((upto j z) i) 2)) (F':=(fun i w v=>ak w v ((upto (j+1) z) i) 2)) (G:=Nw (z j) 2) (.tmp 16) (.tmp 17) ad ad ad rfl (fun _ _ h=>ak.cells h) (fun _ _ _ _ g h=>ak.kp h g) (fun _ _ _ g h=>ak.kp h g) (fun i w v hi h=>by rw [mg hi];exact h) (fun w v h=>by rw [mh];exact h) rfl) (lB (ct ad rfl) aD)))))))⟩) (lB (tlF ad ad) aD)
   (fun q hq w v h=>by
    simp only [CV,List.mem_cons,List.not_mem_nil,or_false] at hq
    rcases hq with rfl
    ·exact (fun h=>h) h)) (lB (eF [1] (ig (z:=(upto n z)) (n:=n) (k:=2) (F:=(Nf (upto n z) 2)) (fun _ _ h=>aC.rw h) (fun _ _ _ h=>ak.i h) (fun _ _ _ _ g h=>ak.kp h g) rfl)) aD)))))
  (aM [.fact 0 (.one (.s))] ⟨Rw.Is 1 (fun i _ v=>v = .agg #[.int .i64 (z i)]) n,trivial⟩) aV
def Rg (z:Nat->Int) (n k:Nat) (i:Nat):List WP:=[Rw 2 (If z k) n,Nz i,Nz n,Ptr 2 (Iw (z i) k),Iw (z i) k]
def Rh:List Step:=[bQ [0] [oN 2] (aK 24),bQ [1,2] oT (au .lss),bQ [0,1] [oP 3] (aN 24),bQ [3] [oI 4] (aO 27)]
def Ri:List Out:=[oS 0,oN 1]
theorem Rj  (hi:i<n):aj (ph (Rg z n k i)) prog ⟨143,[0,1],[oI 4],false⟩:=aQ Ri [oI 4] Rh func143 (by kernel_rfl) (lB (aS (F:=(If z k)) underlying24 ad rfl) (lB (bH ad ad) (lB (co (i:=i) (F:=(If z k)) underlying24 ad ad rfl) (lB (cU (sz:=2) (F:=Iw (z i) k) ad (fun _ _ _ g h=>aF.kp h g) (fun _ _ h=>aF.is h) rfl) aD))))
  (aM [.fact 0 (.one (.s)),.fact 1 (.one (.i))] ⟨Rw.Is 2 (If z k) n,fun _ _ h=>h▸dc _,trivial⟩) (fun _ _ _ h=>h)
def Rk (z:Nat->Int) (n k:Nat) (i:Nat):List WP:=[Rw 2 (If z k) n,Nz i,Nz n]
def Rm:List Step:=[bQ [0] [oN 2] (aK 24),bQ [1,2] oF (au .lss)]
def Rn:List Out:=[oS 0,oN 1]
theorem Rp  (hi:n<=i):aj (ph (Rk z n k i)) prog ⟨143,[0,1],[⟨.agg [.lit (.cb false),.lit (.nl)],[]⟩],false⟩:=aQ Rn [⟨.agg [.lit (.cb false),.lit (.nl)],[]⟩] Rm func143 (by kernel_rfl) (lB (aS (F:=(If z k)) underlying24 ad rfl) (lB (tlF ad ad) aD))
  (aM [.fact 0 (.one (.s)),.fact 1 (.one (.i))] ⟨Rw.Is 2 (If z k) n,fun _ _ h=>h▸dc _,trivial⟩) (fun _ _ _ h=>h)
theorem CX  (h:i<n):upto n f i=ae (an (mk n f)) i:=by rw [fM,cM,gi (h:=h),if_pos h]
theorem Rq (n:Nat) (f:Nat->Int):tl (upto n f) n=(an (mk n f)).length:=by
 rw [eQ];exact pZ fun i hi=>gi (h:=hi)
theorem ol  (h:Rw 2 (Nf (upto n f) k) (tl (upto n f) n) w v):Rw 2 (Nf (ae (an (mk n f))) k) (an (mk n f)).length w v:=
 Rw.len (Rw.to h fun i w v hi h=>by show ak w v _ k;rw [<- CX (Nat.lt_of_lt_of_le hi (bi _ _))];exact h) (Rq n f)
section
variable {Φ:PH}{p q x:Nat}{t:Int}
theorem te {zs:List Int} (hp:∀w v,Φ p w v->Rw 1 (fun i _ v=>v = .agg #[.int .i64 (z i)]) n w v) (hx:Φ x=Rw 2 (Nf (ae zs) 2) zs.length) (hz:∀i,-9223372036854775808<=z i∧z i<=9223372036854775807) (hzs:an (mk n z)=zs) (hn:n<=1000000:=by omega):aj Φ prog ⟨65,[.fact p],[oS x],false⟩:=
 aT (pof hn hz) ⟨hp,trivial⟩ ⟨⟨rfl,⟨rfl,rfl,fun _ _ h=>hx▸hzs▸ol h⟩,trivial⟩,trivial⟩
theorem Ru {us:List Value}{X:Nat->Prop} (hx:Φ x=Iw 0 k) (h:ch Φ X w [⟨.agg [.lit (.cb false),.lit .nl],[]⟩] us):ch Φ X w [⟨iS,[(0,0,x)]⟩] us:=by
 match us,h with
 | [u],h=>
  obtain ⟨⟨⟨vs,rfl,h2⟩,_⟩,_⟩:=h
  match vs,h2 with
  | [v0,v1],h2=>
   obtain ⟨e0,e1,_⟩:=h2
   have uK:v0 = .bool false:=e0
   have e1':v1 = .slice none 0 0:=e1
   subst uK;subst e1'
   exact cP ow hx fun w1 _=>(ak.zero w1 k).i
theorem qU (hp:∀w v,Φ p w v->Rw 2 (If z k) n w v) (hq:∀w v,Φ q w v->v = .int .i64 (i:Int)) (hx:Φ x=Iw t k) (h1:i<n->z i=t) (h2:n<=i->t=0) (_hn:n<=1000000:=by omega):aj Φ prog ⟨143,[.fact p,.fact q],[⟨iS,[(0,0,x)]⟩],false⟩:=by
 rcases Nat.lt_or_ge i n with h | h
 ·exact aT (Rj (z:=z) (k:=k) (n:=n) h) ⟨hp,hq,trivial⟩ ⟨⟨rfl,⟨rfl,rfl,fun _ _ h'=>hx▸h1 h▸h'⟩,trivial⟩,trivial⟩
 ·intro X w vs hX ha
  have ht:=h2 h
  subst ht
  refine (aT (outs:=[⟨.agg [.lit (.cb false),.lit .nl],[]⟩]) (Φ:=Φ) (ar:=[.fact p,.fact q]) (Rp (z:=z) (k:=k) (n:=n) h) ⟨hp,hq,trivial⟩ ⟨⟨rfl,trivial⟩,trivial⟩ X w vs hX ha).mono fun e w' ⟨hg,us,he,h2⟩=>⟨hg,us,he,Ru hx h2⟩
end
def KI (w:World) (v:Value) (b:Bool) (xs:List Nat) (z:Int) (k:Nat):Prop:=aH w v b xs∧aF w v z k
theorem KI.kp {w':World}{z:Int} (h:KI w v b xs z k) (g:Kp w w'):KI w' v b xs z k:=⟨h.1.kp g,h.2.kp g⟩
theorem KI.eO {z:Int} (h:KI w (.agg l.toArray) b xs z k):∀u,u ∈ l->u.oneCell'=true∧cL u:=aF.eO h.2
theorem kI {z:Int}:∀w v,KI w v b xs z k->aF w v z k:=fun _ _ h=>h.2
theorem af.fst'  (h:af w (.agg l.toArray) q k):ai w (.agg ((l.drop 0).take 2).toArray) q.num k:=by
 have:=af.fst h
 simpa [bn,cellsOf,Value.cells] using this
theorem af.snd'  (h:af w (.agg l.toArray) q k):ai w (.agg ((l.drop 2).take 2).toArray) (q.den:Int) k:=by
 have:=af.snd h
 simpa [bn,cellsOf,Value.cells] using this
theorem lW (z:Int):aW z 1=((z:Int):Rat):=by
 rw [Rx,<- Rat.mk_den_one,Rat.mk_eq_divInt];rfl
theorem Ry (z:Int):dG (((z:Int):Rat).den:Int) 1=0:=by
 show dG 1 1=0
 decide
section
variable {Φ:PH}{p q x x1 x2 j:Nat}
theorem tc (k:Nat){z:Int} (hp:∀w v,Φ p w v->aH w v b xs) (hq:∀w v,Φ q w v->v = .int .i64 (k:Int)) (hx:Φ x=fun w v=>KI w v b (xs.take k) z k) (hz:sg b (Proofs.YtbjfgffibepmkaaGreat.val 4294967296 (xs.take k))=z):aj Φ prog ⟨83,[.fact p,.fact q],[⟨iS,[(0,0,x)]⟩],false⟩:=fun X w vs hX ha=>by
 match vs,ha with
 | [v,u],ha=>
  refine ((Rz (Φ:=ph [fun w v=>aH w v b xs,Ni (k:Int),fun w v=>aH w v b (xs.take k),Iw z k]) (p:=0) (q:=1) (x:=2) (x':=3) k ad ad rfl rfl hz) X w [v,u] hX ⟨fun w1 hw=>hp _ _ (ha.1 w1 hw),fun w1 hw=>hq _ _ (ha.2.1 w1 hw),trivial⟩).mono fun e w' ⟨hg,us,he,ho⟩=>⟨hg,us,he,?_⟩
  match us,ho with
  | [u],ho=>
   exact cP ho.1.1 hx fun w1 hw=>⟨ho.1.2 (0,0,2) (List.mem_cons_self ..) w1 hw,ho.1.2 (0,0,3) (List.mem_cons_of_mem _ (List.mem_cons_self ..)) w1 hw⟩
theorem RA {z:Int}{t:Rat} (hp:∀w v,Φ p w v->v = .int .i64 z) (hx:Φ x=Dw t 6) (hx1:Φ x1=fun w v=>ai w v t.num 6) (hx2:Φ x2=fun w v=>ai w v (t.den:Int) 6) (z1 : -9223372036854775808<=z) (z2:z<=9223372036854775807) (ht:aW z y=t) (y1:-9223372036854775808<=y:=by decide) (y2:y<=9223372036854775807:=by decide):aj Φ prog ⟨66,[.fact p,.lit (.ci .i64 y)],[⟨sS,[(0,0,x),(0,2,x1),(2,2,x2)]⟩],false⟩:=
 fw fun _ w v u h0 h1=>by
  obtain rfl:=hp _ _ (get h0)
  obtain rfl:u = .int .i64 y:=h1
  exact (CY z y z1 z2 y1 y2 ht).mono fun _ _ h=>oz hx hx1 hx2 h
theorem RE {z r:Int} (hp:∀w v,Φ p w v->ai w v z i) (hq:∀w v,Φ q w v->ai w v y j) (hr:dG z y=r) (hi:i+j<=1000000:=by omega):aj Φ prog ⟨49,[.fact p,.fact q],[oL (.ci .i64 r)],false⟩:=
 fw fun _ _ _ _ h0 h1=>(RF r (hp _ _ (get h0)) (hq _ _ (get h1)) hi hr).mono fun _ _ h=>RG h
end
def vd (a:Nat->Bool) (xs:Nat->List Nat) (ez:Nat->Int) (n0 K m N:Nat):List WP:=[fun w v=>Rw 2 (fun ι w v=>aH w v (a ι) (xs ι)) n0 w v,Nz K,Nz m,fun w v=>aC 2 27 (fun ι w v=>KI w v (a ι) ((fun ι=>(xs ι).take m) ι) (ez ι) m) N w v]
def RH (a:Nat->Bool) (xs:Nat->List Nat) (ez:Nat->Int) (n0 m:Nat) (j:Nat):List WP:=[Nz j,fun w v=>aC 2 27 (fun ι w v=>KI w v (a ι) ((fun ι=>(xs ι).take m) ι) (ez ι) m) j w v,fun _ _=>True,Nz n0,fun w v=>Ptr 2 (fun w v=>aH w v (a j) (xs j)) w v,fun w v=>aH w v (a j) (xs j),fun w v=>KI w v (a j) ((xs j).take m) (ez j) m,fun w v=>aC 2 27 (fun ι w v=>KI w v (a ι) ((fun ι=>(xs ι).take m) ι) (ez ι) m) (j+1) w v,Nz (j+1),Nz n0]
def CZ:bJ:=⟨[0,1,2,6],[(.slot 8,.i),(.slot 7,.s)],[(.one 0,4),(.one 1,.cD [1] 5),(.one 1,.lo 1)],[.closed (.one (.ci .i64 0)),.closed (.one (.nl)),.frm 0],4,[(5,3)]⟩
def Da:List Step:=[bQ [0] [oN 7] (aK 24),bQ [4,7] oT (au .lss),bQ [4,1] oT (au .lss),bQ [0,4] [oP 8] (aN 24),bQ [8] [oI 9] (aO 27),.base ⟨83,[9,2],[oI 10],false⟩,.base ⟨0,[5,.row 2 [10]],[oS 11],.loose [] 1 0 (bO 24 24)⟩,bQ [4,.lit (.ci .i64 1)] [oN 12] (au .add)]
def RI:List Step:=[bQ [0] [oN 13] (aK 24),bQ [4,13] oF (au .lss)]
def RJ:List Step:=[.loop CZ [(Da,[.frm 12,.frm 11,.frm 0])] RI]
def RK:List Out:=[oS 0,oN 1,oN 2]
theorem RL {xs:Nat->List Nat} (hn:n0<=9223372036854775807) (hKm:K<=1000000) (hz:∀j,sg (a j) (Proofs.YtbjfgffibepmkaaGreat.val 4294967296 ((xs j).take m))=ez j) (hN:N=n0:=by omega) (hK:N<=K:=by omega):aj (ph (vd a xs ez n0 K m N)) prog ⟨82,[0,1,2],[oS 3],false⟩:=aQ RK [oS 3] RJ func82 (by kernel_rfl) (cm (counted N (fun j=>ph (vd a xs ez n0 K m N ++ RH a xs ez n0 m j)) (fun _=>0) (fun j p hp=>cn (show p<(vd a xs ez n0 K m N).length from hp)) ⟨fun _=>rfl,fun w=>aC.nil 2 27 (fun ι w v=>KI w v (a ι) ((fun ι=>(xs ι).take m) ι) (ez ι) m) w,bS,trivial⟩ (fun j hj=>by
   skip
   exact ⟨(Da,[.frm 12,.frm 11,.frm 0]),rfl,⟨ad,ad,bS,trivial⟩,(lB (aS (F:=(fun ι w v=>aH w v (a ι) (xs ι))) underlying24 ad rfl) (lB (bH ad ad) (lB (bH ad ad) (lB (co (i:=j) (F:=(fun ι w v=>aH w v (a ι) (xs ι))) underlying24 ad ad rfl) (lB (cU (sz:=2) (F:=fun w v=>aH w v (a j) (xs j)) ad (fun _ _ _ g h=>aH.kp h g) (fun _ _ h=>aH.is h) rfl) (lB (tc m ad ad rfl (hz j)) (lB (nw (n:=j) (F:=(fun ι w v=>KI w v (a ι) ((fun ι=>(xs ι).take m) ι) (ez ι) m)) (fun _ _ _ _ g h=>KI.kp h g) ad ad (fun _ _ h=>KI.eO h) rfl) (lB (ct ad rfl) aD))))))))⟩) (lB (aS (F:=(fun ι w v=>aH w v (a ι) (xs ι))) underlying24 ad rfl) (lB (tlF ad ad) aD))
   (fun q hq w v h=>by
    simp only [CZ,List.mem_cons,List.not_mem_nil,or_false] at hq
    rcases hq with rfl
    ·exact (fun h=>h) h)) aD)
  (aM [.fact 0 (.one (.s)),.fact 1 (.one (.i)),.fact 2 (.one (.i))] ⟨Rw.Is 2 (fun ι w v=>aH w v (a ι) (xs ι)) n0,fun _ _ h=>h▸dc _,fun _ _ h=>h▸dc _,trivial⟩) (fun _ _ _ h=>h)
def ve (a:Nat->Bool) (xs:Nat->List Nat) (ez:Nat->Int) (n0 K m N:Nat):List WP:=[fun w v=>Rw 2 (fun ι w v=>aH w v (a ι) (xs ι)) n0 w v,Nz K,Nz m,fun w v=>aC 2 27 (fun ι w v=>KI w v (a ι) ((fun ι=>(xs ι).take m) ι) (ez ι) m) N w v]
def RM (a:Nat->Bool) (xs:Nat->List Nat) (ez:Nat->Int) (n0 m:Nat) (j:Nat):List WP:=[Nz j,fun w v=>aC 2 27 (fun ι w v=>KI w v (a ι) ((fun ι=>(xs ι).take m) ι) (ez ι) m) j w v,fun _ _=>True,Nz n0,fun w v=>Ptr 2 (fun w v=>aH w v (a j) (xs j)) w v,fun w v=>aH w v (a j) (xs j),fun w v=>KI w v (a j) ((xs j).take m) (ez j) m,fun w v=>aC 2 27 (fun ι w v=>KI w v (a ι) ((fun ι=>(xs ι).take m) ι) (ez ι) m) (j+1) w v,Nz (j+1),Nz n0]
def Db:bJ:=⟨[0,1,2,6],[(.slot 8,.i),(.slot 7,.s)],[(.one 0,4),(.one 1,.cD [1] 5),(.one 1,.lo 1)],[.closed (.one (.ci .i64 0)),.closed (.one (.nl)),.frm 0],4,[(5,3)]⟩
def Dc:List Step:=[bQ [0] [oN 7] (aK 24),bQ [4,7] oT (au .lss),bQ [4,1] oT (au .lss),bQ [0,4] [oP 8] (aN 24),bQ [8] [oI 9] (aO 27),.base ⟨83,[9,2],[oI 10],false⟩,.base ⟨0,[5,.row 2 [10]],[oS 11],.loose [] 1 0 (bO 24 24)⟩,bQ [4,.lit (.ci .i64 1)] [oN 12] (au .add)]
def RN:List Step:=[bQ [0] [oN 13] (aK 24),bQ [4,13] oT (au .lss),bQ [4,1] oF (au .lss)]
def RO:List Step:=[.loop Db [(Dc,[.frm 12,.frm 11,.frm 0])] RN]
def RP:List Out:=[oS 0,oN 1,oN 2]
theorem RQ {xs:Nat->List Nat} (_hn:n0<=9223372036854775807) (hKm:K<=1000000) (hz:∀j,sg (a j) (Proofs.YtbjfgffibepmkaaGreat.val 4294967296 ((xs j).take m))=ez j) (hK:K<n0) (hN:N=K:=by omega):aj (ph (ve a xs ez n0 K m N)) prog ⟨82,[0,1,2],[oS 3],false⟩:=aQ RP [oS 3] RO func82 (by kernel_rfl) (cm (counted N (fun j=>ph (ve a xs ez n0 K m N ++ RM a xs ez n0 m j)) (fun _=>0) (fun j p hp=>cn (show p<(ve a xs ez n0 K m N).length from hp)) ⟨fun _=>rfl,fun w=>aC.nil 2 27 (fun ι w v=>KI w v (a ι) ((fun ι=>(xs ι).take m) ι) (ez ι) m) w,bS,trivial⟩ (fun j hj=>by
   skip
   exact ⟨(Dc,[.frm 12,.frm 11,.frm 0]),rfl,⟨ad,ad,bS,trivial⟩,(lB (aS (F:=(fun ι w v=>aH w v (a ι) (xs ι))) underlying24 ad rfl) (lB (bH ad ad) (lB (bH ad ad) (lB (co (i:=j) (F:=(fun ι w v=>aH w v (a ι) (xs ι))) underlying24 ad ad rfl) (lB (cU (sz:=2) (F:=fun w v=>aH w v (a j) (xs j)) ad (fun _ _ _ g h=>aH.kp h g) (fun _ _ h=>aH.is h) rfl) (lB (tc m ad ad rfl (hz j)) (lB (nw (n:=j) (F:=(fun ι w v=>KI w v (a ι) ((fun ι=>(xs ι).take m) ι) (ez ι) m)) (fun _ _ _ _ g h=>KI.kp h g) ad ad (fun _ _ h=>KI.eO h) rfl) (lB (ct ad rfl) aD))))))))⟩) (lB (aS (F:=(fun ι w v=>aH w v (a ι) (xs ι))) underlying24 ad rfl) (lB (bH ad ad) (lB (tlF ad ad) aD)))
   (fun q hq w v h=>by
    simp only [Db,List.mem_cons,List.not_mem_nil,or_false] at hq
    rcases hq with rfl
    ·exact (fun h=>h) h)) aD)
  (aM [.fact 0 (.one (.s)),.fact 1 (.one (.i)),.fact 2 (.one (.i))] ⟨Rw.Is 2 (fun ι w v=>aH w v (a ι) (xs ι)) n0,fun _ _ h=>h▸dc _,fun _ _ h=>h▸dc _,trivial⟩) (fun _ _ _ h=>h)
def vf (q:Nat->Rat) (n0 k:Nat):List WP:=[Rw 4 (Df q k) n0,Nz n0,Nz (tl (fun ι=>(q ι).num) n0),Rw 4 (Df q k) (tl (fun ι=>(q ι).num) n0)]
def RS (q:Nat->Rat) (n0 k:Nat) (j:Nat):List WP:=[Nz (n0-j),Nz (n0-(j+1)),Ptr 4 (Dw (q (n0-(j+1))) k),fun w v=>Ptr 2 (fun w v=>ai w v ((q (n0-(j+1))).num) k) w v,fun w v=>ai w v ((q (n0-(j+1))).num) k,Nz (n0-(j+1))]
def Dd:bJ:=⟨[0,2,4,5],[(.slot 3,.i)],[(.one 0,4)],[.frm 1],4,[(4,2)]⟩
def De:List Step:=[bQ [4,.lit (.ci .i64 0)] oT (au .gtr),bQ [4,.lit (.ci .i64 1)] [oN 5] (au .sub),bQ [0,5] [oP 6] (aN 32),bQ [6] [oP 7] (eS 63 0),bQ [7] [oD 8] (aO 61),.base ⟨38,[8],oT,false⟩,bQ [4,.lit (.ci .i64 1)] [oN 9] (au .sub)]
def RU:List Step:=[bQ [4,.lit (.ci .i64 0)] oF (au .gtr)]
def RV:List Step:=[bQ [0] [oN 1] (aK 32),.loop Dd [(De,[.frm 9])] RU,bQ [0,2] [oS 3] (er 32)]
def RW:List Out:=[oS 0]
theorem RX {q:Nat->Rat} (hn:n0<=1000000) (_hk:k<=500000) (ht:(tl (fun ι=>(q ι).num) n0)=0):aj (ph (vf q n0 k)) prog ⟨67,[0],[oS 3],false⟩:=by
 have hle:=bi (fun ι=>(q ι).num) n0
 exact aQ RW [oS 3] RV func67 (by kernel_rfl) (lB (aS (F:=(Df q k)) underlying32 ad rfl) (cm (counted (n0-(tl (fun ι=>(q ι).num) n0)) (fun j=>ph (vf q n0 k ++ RS q n0 k j)) (fun _=>0) (fun j p hp=>cn (show p<(vf q n0 k).length from hp)) ⟨ad,trivial⟩ (fun j hj=>by
   have h0:(q (n0-(j+1))).num=0:=iG (fun ι=>(q ι).num) n0 _ (by omega) (by omega)
   exact ⟨(De,[.frm 9]),rfl,⟨ad,trivial⟩,(lB (gB ad) (lB (eg ad rfl) (lB (co (i:=(n0-(j+1))) (F:=(Df q k)) underlying32 ad ad rfl) (lB (fj (off:=0) (len:=2) (sz:=4) (F:=Dw (q (n0-(j+1))) k) (G:=fun w v=>ai w v ((q (n0-(j+1))).num) k) ad (fun _ _ h=>af.fst' h) rfl) (lB (cU (sz:=2) (F:=fun w v=>ai w v ((q (n0-(j+1))).num) k) ad (fun _ _ _ g h=>ai.kp h g) (fun _ _ h=>ai.is h) rfl) (lB (gK dD (decide_eq_true h0)) (lB (eg ad rfl) aD)))))))⟩)
   (by
   have hle:=bi (fun ι=>(q ι).num) n0
   exact (lB (kD ad) aD))
   (fun q hq w v h=>by
    simp only [Dd,List.mem_cons,List.not_mem_nil,or_false] at hq
    rcases hq with rfl
    ·exact (fun h=>h.trans (congrArg (Value.int .i64) (by have:=bi (fun ι=>(q ι).num) n0;omega))) h)) (lB (mo (m:=(tl (fun ι=>(q ι).num) n0)) (n:=n0) (F:=(Df q k)) underlying32 ad ad (by first | omega | exact bi _ _) rfl) aD)))
  (aM [.fact 0 (.one (.s))] ⟨Rw.Is 4 (Df q k) n0,trivial⟩) aV
def vg (q:Nat->Rat) (n0 k:Nat):List WP:=[Rw 4 (Df q k) n0,Nz n0,Nz (tl (fun ι=>(q ι).num) n0),Rw 4 (Df q k) (tl (fun ι=>(q ι).num) n0)]
def RY (q:Nat->Rat) (n0 k:Nat) (j:Nat):List WP:=[Nz (n0-j),Nz (n0-(j+1)),Ptr 4 (Dw (q (n0-(j+1))) k),fun w v=>Ptr 2 (fun w v=>ai w v ((q (n0-(j+1))).num) k) w v,fun w v=>ai w v ((q (n0-(j+1))).num) k,Nz (n0-(j+1)),Ni ((((tl (fun ι=>(q ι).num) n0)-1):Nat):Int),Ptr 4 (Dw (q ((tl (fun ι=>(q ι).num) n0)-1)) k),fun w v=>Ptr 2 (fun w v=>ai w v ((q ((tl (fun ι=>(q ι).num) n0)-1)).num) k) w v,fun w v=>ai w v ((q ((tl (fun ι=>(q ι).num) n0)-1)).num) k]
def Dg:bJ:=⟨[0,2,4,5],[(.slot 3,.i)],[(.one 0,4)],[.frm 1],4,[(4,2)]⟩
def Dh:List Step:=[bQ [4,.lit (.ci .i64 0)] oT (au .gtr),bQ [4,.lit (.ci .i64 1)] [oN 5] (au .sub),bQ [0,5] [oP 6] (aN 32),bQ [6] [oP 7] (eS 63 0),bQ [7] [oD 8] (aO 61),.base ⟨38,[8],oT,false⟩,bQ [4,.lit (.ci .i64 1)] [oN 9] (au .sub)]
def RZ:List Step:=[bQ [4,.lit (.ci .i64 0)] oT (au .gtr),bQ [4,.lit (.ci .i64 1)] [oN 10] (au .sub),bQ [0,10] [oP 11] (aN 32),bQ [11] [oP 12] (eS 63 0),bQ [12] [oD 13] (aO 61),.base ⟨38,[13],oF,false⟩]
def Sa:List Step:=[bQ [0] [oN 1] (aK 32),.loop Dg [(Dh,[.frm 9])] RZ,bQ [0,2] [oS 3] (er 32)]
def Sb:List Out:=[oS 0]
theorem Sc {q:Nat->Rat} (hn:n0<=1000000) (_hk:k<=500000) (ht:0<(tl (fun ι=>(q ι).num) n0)):aj (ph (vg q n0 k)) prog ⟨67,[0],[oS 3],false⟩:=by
 have hle:=bi (fun ι=>(q ι).num) n0
 exact aQ Sb [oS 3] Sa func67 (by kernel_rfl) (lB (aS (F:=(Df q k)) underlying32 ad rfl) (cm (counted (n0-(tl (fun ι=>(q ι).num) n0)) (fun j=>ph (vg q n0 k ++ RY q n0 k j)) (fun _=>0) (fun j p hp=>cn (show p<(vg q n0 k).length from hp)) ⟨ad,trivial⟩ (fun j hj=>by
   have h0:(q (n0-(j+1))).num=0:=iG (fun ι=>(q ι).num) n0 _ (by omega) (by omega)
   exact ⟨(Dh,[.frm 9]),rfl,⟨ad,trivial⟩,(lB (gB ad) (lB (eg ad rfl) (lB (co (i:=(n0-(j+1))) (F:=(Df q k)) underlying32 ad ad rfl) (lB (fj (off:=0) (len:=2) (sz:=4) (F:=Dw (q (n0-(j+1))) k) (G:=fun w v=>ai w v ((q (n0-(j+1))).num) k) ad (fun _ _ h=>af.fst' h) rfl) (lB (cU (sz:=2) (F:=fun w v=>ai w v ((q (n0-(j+1))).num) k) ad (fun _ _ _ g h=>ai.kp h g) (fun _ _ h=>ai.is h) rfl) (lB (gK dD (decide_eq_true h0)) (lB (eg ad rfl) aD)))))))⟩)
   (by
   have hle:=bi (fun ι=>(q ι).num) n0;have hl:=gE (fun ι=>(q ι).num) n0 ht
   exact (lB (gB ad) (lB (eg ad rfl) (lB (co (i:=((tl (fun ι=>(q ι).num) n0)-1)) (F:=(Df q k)) underlying32 ad ad rfl) (lB (fj (off:=0) (len:=2) (sz:=4) (F:=Dw (q ((tl (fun ι=>(q ι).num) n0)-1)) k) (G:=fun w v=>ai w v ((q ((tl (fun ι=>(q ι).num) n0)-1)).num) k) ad (fun _ _ h=>af.fst' h) rfl) (lB (cU (sz:=2) (F:=fun w v=>ai w v ((q ((tl (fun ι=>(q ι).num) n0)-1)).num) k) ad (fun _ _ _ g h=>ai.kp h g) (fun _ _ h=>ai.is h) rfl) (lB (gK dD (decide_eq_false hl)) aD)))))))
   (fun q hq w v h=>by
    simp only [Dg,List.mem_cons,List.not_mem_nil,or_false] at hq
    rcases hq with rfl
    ·exact (fun h=>h.trans (congrArg (Value.int .i64) (by have:=bi (fun ι=>(q ι).num) n0;omega))) h)) (lB (mo (m:=(tl (fun ι=>(q ι).num) n0)) (n:=n0) (F:=(Df q k)) underlying32 ad ad (by first | omega | exact bi _ _) rfl) aD)))
  (aM [.fact 0 (.one (.s))] ⟨Rw.Is 4 (Df q k) n0,trivial⟩) aV
section
variable {Φ:PH}{p x:Nat}{q:Nat->Rat}
theorem nC (hp:∀w v,Φ p w v->Rw 4 (Df q k) n w v) (hx:Φ x=Rw 4 (Df q k) (tl (fun i=>(q i).num) n)) (hn:n<=1000000:=by omega) (hk:k<=500000:=by omega):aj Φ prog ⟨67,[.fact p],[oS x],false⟩:=by
 rcases Nat.eq_zero_or_pos (tl (fun i=>(q i).num) n) with h | h
 ·exact aT (RX hn hk h) ⟨hp,trivial⟩ ⟨⟨rfl,⟨rfl,rfl,fun _ _ h=>hx▸h⟩,trivial⟩,trivial⟩
 ·exact aT (Sc hn hk h) ⟨hp,trivial⟩ ⟨⟨rfl,⟨rfl,rfl,fun _ _ h=>hx▸h⟩,trivial⟩,trivial⟩
end
def vh (z:Nat->Int) (n k:Nat):List WP:=[Rw 2 (If z k) n,Nz n,fun w v=>aC 4 63 (fun ι w v=>af w v (((z ι:Int):Rat)) (k+2+2)) n w v,fun w v=>Rw 4 (fun ι w v=>af w v (((z ι:Int):Rat)) (k+2+2)) (tl (fun ι=>(((z ι:Int):Rat)).num) n) w v]
def Sd (z:Nat->Int) (k:Nat) (j:Nat):List WP:=[Nz j,fun w v=>aC 4 63 (fun ι w v=>af w v (((z ι:Int):Rat)) (k+2+2)) j w v,fun _ _=>True,Ptr 2 (Iw (z j) k),Iw (z j) k,fun w v=>ai w v (z j) k,fun w v=>ai w v (1:Int) 2,Dw (aW (z j) (1:Int)) (k+2+2),fun w v=>ai w v ((aW (z j) (1:Int)).num) (k+2+2),fun w v=>ai w v ((aW (z j) (1:Int)).den:Int) (k+2+2),fun w v=>aC 4 63 (fun ι w v=>af w v (((z ι:Int):Rat)) (k+2+2)) (j+1) w v,Nz (j+1)]
def Di:bJ:=⟨[0,2,5,6],[(.slot 7,.i),(.slot 3,.s)],[(.one 0,4),(.one 1,.cD [1] 5),(.one 1,.lo 1)],[.closed (.one (.ci .i64 0)),.closed (.one (.nl)),.frm 0],4,[(5,2)]⟩
def Dj:List Step:=[bQ [4,1] oT (au .lss),bQ [0,4] [oP 7] (aN 24),bQ [7] [oI 8] (aO 27),.base ⟨37,[8],[oD 9],false⟩,.base ⟨34,[.lit (.ci .i64 1)],[oD 10],false⟩,.base ⟨69,[9,10],[⟨.agg [.s,.b,.s,.b],[(0,0,11),(0,2,12),(2,2,13)]⟩],false⟩,.base ⟨0,[5,.row 4 [11]],[oS 14],.loose [] 1 0 (bO 32 32)⟩,bQ [4,.lit (.ci .i64 1)] [oN 15] (au .add)]
def Se:List Step:=[bQ [4,1] oF (au .lss)]
def Sf:List Step:=[bQ [0] [oN 1] (aK 24),.loop Di [(Dj,[.frm 15,.frm 14,.frm 0])] Se,.base ⟨67,[2],[oS 3],.dF [1] false⟩]
def Sg:List Out:=[oS 0]
theorem Sj  (hn:n<=1000000) (hk:k<=50000):aj (ph (vh z n k)) prog ⟨33,[0],[oS 3],false⟩:=aQ Sg [oS 3] Sf func33 (by kernel_rfl) (lB (aS (F:=(If z k)) underlying24 ad rfl) (cm (counted n (fun j=>ph (vh z n k ++ Sd z k j)) (fun _=>0) (fun j p hp=>cn (show p<(vh z n k).length from hp)) ⟨fun _=>rfl,fun w=>aC.nil 4 63 (fun ι w v=>af w v (((z ι:Int):Rat)) (k+2+2)) w,bS,trivial⟩ (fun j hj=>by
   skip
   exact ⟨(Dj,[.frm 15,.frm 14,.frm 0]),rfl,⟨ad,ad,bS,trivial⟩,(lB (bH ad ad) (lB (co (i:=j) (F:=(If z k)) underlying24 ad ad rfl) (lB (cU (sz:=2) (F:=Iw (z j) k) ad (fun _ _ _ g h=>aF.kp h g) (fun _ _ h=>aF.is h) rfl) (lB (qY iI rfl rfl) (lB (jG (z:=1) rfl rfl) (lB (jH dD dD rfl rfl rfl rfl) (lB (pW (n:=j) (F:=(fun ι w v=>af w v (((z ι:Int):Rat)) (k+2+2))) (fun _ _ _ _ g h=>af.kp h g) ad (fun _ _ h=>h.eq (lW _)) (fun _ _ h=>af.eO h) rfl) (lB (ct ad rfl) aD))))))))⟩) (lB (tlF ad ad) aD)
   (fun q hq w v h=>by
    simp only [Di,List.mem_cons,List.not_mem_nil,or_false] at hq
    rcases hq with rfl
    ·exact (fun h=>h) h)) (lB (eF [1] (nC (q:=(fun ι=>((z ι:Int):Rat))) (n:=n) (k:=(k+2+2)) (fun _ _ h=>aC.rw h) rfl)) aD)))
  (aM [.fact 0 (.one (.s))] ⟨Rw.Is 2 (If z k) n,trivial⟩) aV
def vi (z:Nat->Int) (n:Nat):List WP:=[fun w v=>Rw 1 (fun i _ v=>v = .agg #[.int .i64 (z i)]) n w v,Nz n,fun w v=>aC 4 63 (fun ι w v=>af w v (((z ι:Int):Rat)) 6) n w v,fun w v=>Rw 4 (fun ι w v=>af w v (((z ι:Int):Rat)) 6) (tl (fun ι=>(((z ι:Int):Rat)).num) n) w v]
def Sm (z:Nat->Int) (j:Nat):List WP:=[Nz j,fun w v=>aC 4 63 (fun ι w v=>af w v (((z ι:Int):Rat)) 6) j w v,fun _ _=>True,fun w v=>Ptr 1 (fun _ v=>v = .agg #[.int .i64 (z j)]) w v,Ni (z j),Dw (aW (z j) 1) 6,fun w v=>ai w v ((aW (z j) 1).num) 6,fun w v=>ai w v ((aW (z j) 1).den:Int) 6,fun w v=>aC 4 63 (fun ι w v=>af w v (((z ι:Int):Rat)) 6) (j+1) w v,Nz (j+1)]
def Dk:bJ:=⟨[0,2,5,6],[(.slot 7,.i),(.slot 3,.s)],[(.one 0,4),(.one 1,.cD [1] 5),(.one 1,.lo 1)],[.closed (.one (.ci .i64 0)),.closed (.one (.nl)),.frm 0],4,[(5,2)]⟩
def Do:List Step:=[bQ [4,1] oT (au .lss),bQ [0,4] [oP 7] (aN 49),bQ [7] [oN 8] (aO 3),.base ⟨66,[8,.lit (.ci .i64 1)],[⟨.agg [.s,.b,.s,.b],[(0,0,9),(0,2,10),(2,2,11)]⟩],false⟩,.base ⟨0,[5,.row 4 [9]],[oS 12],.loose [] 1 0 (bO 32 32)⟩,bQ [4,.lit (.ci .i64 1)] [oN 13] (au .add)]
def Sn:List Step:=[bQ [4,1] oF (au .lss)]
def So:List Step:=[bQ [0] [oN 1] (aK 49),.loop Dk [(Do,[.frm 13,.frm 12,.frm 0])] Sn,.base ⟨67,[2],[oS 3],.dF [1] false⟩]
def Sp:List Out:=[oS 0]
theorem rof  (hn:n<=1000000) (hz:∀i,-9223372036854775808<=z i∧z i<=9223372036854775807):aj (ph (vi z n)) prog ⟨28,[0],[oS 3],false⟩:=aQ Sp [oS 3] So func28 (by kernel_rfl) (lB (aS (F:=(fun i _ v=>v = .agg #[.int .i64 (z i)])) underlying49 ad rfl) (cm (counted n (fun j=>ph (vi z n ++ Sm z j)) (fun _=>0) (fun j p hp=>cn (show p<(vi z n).length from hp)) ⟨fun _=>rfl,fun w=>aC.nil 4 63 (fun ι w v=>af w v (((z ι:Int):Rat)) 6) w,bS,trivial⟩ (fun j hj=>by
   skip
   exact ⟨(Do,[.frm 13,.frm 12,.frm 0]),rfl,⟨ad,ad,bS,trivial⟩,(lB (bH ad ad) (lB (co (i:=j) (F:=(fun i _ v=>v = .agg #[.int .i64 (z i)])) underlying49 ad ad rfl) (lB (BW ad rfl) (lB (RA (y:=1) ad rfl rfl rfl (by have:=hz j;omega) (by have:=hz j;omega) rfl) (lB (pW (n:=j) (F:=(fun ι w v=>af w v (((z ι:Int):Rat)) 6)) (fun _ _ _ _ g h=>af.kp h g) ad (fun _ _ h=>h.eq (lW _)) (fun _ _ h=>af.eO h) rfl) (lB (ct ad rfl) aD))))))⟩) (lB (tlF ad ad) aD)
   (fun q hq w v h=>by
    simp only [Dk,List.mem_cons,List.not_mem_nil,or_false] at hq
    rcases hq with rfl
    ·exact (fun h=>h) h)) (lB (eF [1] (nC (q:=(fun ι=>((z ι:Int):Rat))) (n:=n) (k:=6) (fun _ _ h=>aC.rw h) rfl)) aD)))
  (aM [.fact 0 (.one (.s))] ⟨Rw.Is 1 (fun i _ v=>v = .agg #[.int .i64 (z i)]) n,trivial⟩) aV
def vj (z:Nat->Int) (n k kq:Nat):List WP:=[fun w v=>Rw 4 (fun ι w v=>af w v (((z ι:Int):Rat)) kq) n w v,Rw 2 (Nf z k) n,Nz n,Nz n,Nz n]
def Ss (z:Nat->Int) (k kq:Nat) (j:Nat):List WP:=[Nz j,Ptr 4 (Dw (((z j:Int):Rat)) kq),fun w v=>Ptr 2 (fun w v=>ai w v ((((z j:Int):Rat)).num) kq) w v,fun w v=>ai w v ((((z j:Int):Rat)).num) kq,Ptr 2 (Nw (z j) k),Nw (z j) k,Ptr 4 (Dw (((z j:Int):Rat)) kq),fun w v=>Ptr 2 (fun w v=>ai w v ((((z j:Int):Rat)).den:Int) kq) w v,fun w v=>ai w v ((((z j:Int):Rat)).den:Int) kq,fun w v=>ai w v (1:Int) 2,Nz (j+1)]
def Su:bJ:=⟨[0,1,4,6,7,8,9,10,11,12],[(.slot 13,.i)],[(.one 0,5)],[.closed (.one (.ci .i64 0))],5,[]⟩
def Dp:List Step:=[bQ [5,4] oT (au .lss),bQ [0,5] [oP 6] (aN 32),bQ [6] [oP 7] (eS 63 0),bQ [7] [oD 8] (aO 61),bQ [1,5] [oP 9] (aN 24),bQ [9] [oI 10] (aO 27),.base ⟨48,[8,10],oT,false⟩,bQ [0,5] [oP 11] (aN 32),bQ [11] [oP 12] (eS 63 1),bQ [12] [oD 13] (aO 61),.base ⟨34,[.lit (.ci .i64 1)],[oD 14],false⟩,.base ⟨49,[13,14],[oL (.ci .i64 0)],false⟩,bQ [5,.lit (.ci .i64 1)] [oN 15] (au .add)]
def Sv:List Step:=[bQ [5,4] oF (au .lss)]
def Sw:List Step:=[bQ [0] [oN 2] (aK 32),bQ [1] [oN 3] (aK 24),bQ [2,3] oF (au .neq),bQ [0] [oN 4] (aK 32),.loop Su [(Dp,[.frm 15])] Sv]
def Sx:List Out:=[oS 0,oS 1]
theorem Sy {kq:Nat} (hn:n<=1000000) (hkq:kq<=500000) (_hk:k<=500000):aj (ph (vj z n k kq)) prog ⟨11,[0,1],oT,false⟩:=aQ Sx oT Sw func11 (by kernel_rfl) (lB (aS (F:=(fun ι w v=>af w v (((z ι:Int):Rat)) kq)) underlying32 ad rfl) (lB (aS (F:=(Nf z k)) underlying24 ad rfl) (lB (iH (op:=.neq) ad ad (cj (decide_eq_false (fun h=>h rfl)) (by simp))) (lB (aS (F:=(fun ι w v=>af w v (((z ι:Int):Rat)) kq)) underlying32 ad rfl) (cm (counted n (fun j=>ph (vj z n k kq ++ Ss z k kq j)) (fun _=>0) (fun j p hp=>cn (show p<(vj z n k kq).length from hp)) ⟨fun _=>rfl,trivial⟩ (fun j hj=>by
   skip
   exact ⟨(Dp,[.frm 15]),rfl,⟨ad,trivial⟩,(lB (bH ad ad) (lB (co (i:=j) (F:=(fun ι w v=>af w v (((z ι:Int):Rat)) kq)) underlying32 ad ad rfl) (lB (fj (off:=0) (len:=2) (sz:=4) (F:=Dw (((z j:Int):Rat)) kq) (G:=fun w v=>ai w v ((((z j:Int):Rat)).num) kq) ad (fun _ _ h=>af.fst' h) rfl) (lB (cU (sz:=2) (F:=fun w v=>ai w v ((((z j:Int):Rat)).num) kq) ad (fun _ _ _ g h=>ai.kp h g) (fun _ _ h=>ai.is h) rfl) (lB (co (i:=j) (F:=(Nf z k)) underlying24 ad ad rfl) (lB (cU (sz:=2) (F:=Nw (z j) k) ad (fun _ _ _ g h=>ak.kp h g) (fun _ _ h=>ak.is h) rfl) (lB (Sz dD nN rfl rfl) (lB (co (i:=j) (F:=(fun ι w v=>af w v (((z ι:Int):Rat)) kq)) underlying32 ad ad rfl) (lB (fj (off:=2) (len:=2) (sz:=4) (F:=Dw (((z j:Int):Rat)) kq) (G:=fun w v=>ai w v ((((z j:Int):Rat)).den:Int) kq) ad (fun _ _ h=>af.snd' h) rfl) (lB (cU (sz:=2) (F:=fun w v=>ai w v ((((z j:Int):Rat)).den:Int) kq) ad (fun _ _ _ g h=>ai.kp h g) (fun _ _ h=>ai.is h) rfl) (lB (jG (z:=1) rfl rfl) (lB (RE dD dD (Ry _)) (lB (ct ad rfl) aD)))))))))))))⟩) (lB (tlF ad ad) aD)
   (fun q hq=>by cases hq)) aD)))))
  (aM [.fact 0 (.one (.s)),.fact 1 (.one (.s))] ⟨Rw.Is 4 (fun ι w v=>af w v (((z ι:Int):Rat)) kq) n,Rw.Is 2 (Nf z k) n,trivial⟩) aV
section
variable {Φ:PH}{p q x kq:Nat}
theorem qC (hp:∀w v,Φ p w v->Rw 4 (fun i w v=>af w v ((z i:Int):Rat) kq) n w v) (hq:∀w v,Φ q w v->Rw 2 (Nf z k) n w v) (hn:n<=1000000) (hkq:kq<=500000:=by omega) (hk:k<=500000:=by omega):aj Φ prog ⟨11,[.fact p,.fact q],oT,false⟩:=
 aT (Sy hn hkq hk) ⟨hp,hq,trivial⟩ ⟨⟨rfl,trivial⟩,trivial⟩
end
section
variable {Φ:PH}{p q r x kq:Nat}
theorem Dq  (hL:an (mk n z)=L) (h:Rw 4 (fun i w v=>af w v ((z i:Int):Rat) k) (tl z n) w v):Rw 4 (fun i w v=>af w v ((ae L i:Int):Rat) k) L.length w v:=by
 subst hL
 exact Rw.len (Rw.to h fun i w v hi h=>by show af w v ((ae _ i:Int):Rat) k;rw [<- CX (Nat.lt_of_lt_of_le hi (bi _ _)),gi (h:=(Nat.lt_of_lt_of_le hi (bi _ _)))];exact h) (by rw [eQ])
theorem mA  (hp:∀w v,Φ p w v->Rw 2 (If z k) n w v) (hx:Φ x=fun w v=>Rw 4 (fun i w v=>af w v ((ae L i:Int):Rat) (k+2+2)) L.length w v) (hL:an (mk n z)=L) (hn:n<=1000000:=by omega) (hk:k<=50000:=by omega):aj Φ prog ⟨33,[.fact p],[oS x],false⟩:=
 aT (Sj hn hk) ⟨hp,trivial⟩ ⟨⟨rfl,⟨rfl,rfl,fun _ _ h=>hx▸Dq hL h⟩,trivial⟩,trivial⟩
theorem zG  (hp:∀w v,Φ p w v->Rw 1 (fun i _ v=>v = .agg #[.int .i64 (z i)]) n w v) (hx:Φ x=fun w v=>Rw 4 (fun i w v=>af w v ((ae L i:Int):Rat) 6) L.length w v) (hz:∀i,-9223372036854775808<=z i∧z i<=9223372036854775807) (hn:n<=1000000:=by omega) (hL:an (mk n z)=L:=by decide):aj Φ prog ⟨28,[.fact p],[oS x],false⟩:=
 aT (rof hn hz) ⟨hp,trivial⟩ ⟨⟨rfl,⟨rfl,rfl,fun _ _ h=>hx▸Dq hL h⟩,trivial⟩,trivial⟩
theorem yB {xs:Nat->List Nat} (K m:Nat) (hp:∀w v,Φ p w v->Rw 2 (fun i w v=>aH w v (a i) (xs i)) n0 w v) (hq:∀w v,Φ q w v->v = .int .i64 (K:Int)) (hr:∀w v,Φ r w v->v = .int .i64 (m:Int)) (hx:Φ x=fun w v=>Rw 2 (fun i w v=>KI w v (a i) ((xs i).take m) (z i) m) n w v) (hz:∀j,sg (a j) (Proofs.YtbjfgffibepmkaaGreat.val 4294967296 ((xs j).take m))=z j) (hN:min n0 K=n) (hn:n0<=9223372036854775807:=by omega) (hKm:K<=1000000:=by omega) :
  aj Φ prog ⟨82,[.fact p,.fact q,.fact r],[oS x],false⟩:=by
 rcases Nat.lt_or_ge K n0 with h | h
 ·exact aT (RQ (N:=n) hn hKm hz h) ⟨hp,hq,hr,trivial⟩ ⟨⟨rfl,⟨rfl,rfl,fun _ _ h=>hx▸aC.rw (e:=27) h⟩,trivial⟩,trivial⟩
 ·exact aT (RL (N:=n) hn hKm hz) ⟨hp,hq,hr,trivial⟩ ⟨⟨rfl,⟨rfl,rfl,fun _ _ h=>hx▸aC.rw (e:=27) h⟩,trivial⟩,trivial⟩
end
end Go.Proofs.YtbjfgffibepmkaaGreat.Sym
