/- poly.trim; contracts told in one list of predicates, told in another. poly.Of, Deg, coefficient, Lead. keep.Poly; the reference's polynomials: cut, From, Of, Same. -/
import Derived.Test.YtbokonbbokhjlaaGreatPolC
set_option maxRecDepth 100000
namespace Go.Proofs.YtbokonbbokhjlaaGreat.Sym
open Go.RowKit
theorem xV {z:Int} (h:dj z 0=0):z=0:=by
 unfold dj at h
 split at h
 ·cases h
 ·split at h
  ·assumption
  ·cases h
def fK (Φ Ψ:PH):List Arg->List Arg->Prop
 | [],[]=>True
 | .fact p :: l,.fact q :: m=>(∀w v,Φ p w v->Ψ q w v)∧fK Φ Ψ l m
 | .lit a :: l,.lit b :: m=>a=b∧fK Φ Ψ l m
 | .lit a :: l,.fact q :: m=>(∀w,Ψ q w (a.ev aH))∧fK Φ Ψ l m
 | .any :: l,.any :: m=>fK Φ Ψ l m
 | _,_=>False
def mM (Ψ Φ:PH):List (Nat×Nat×Nat)->List (Nat×Nat×Nat)->Prop
 | [],[]=>True
 | a :: l,b :: m=>(a.1=b.1∧a.2.1=b.2.1∧∀w v,Ψ a.2.2 w v->Φ b.2.2 w v)∧mM Ψ Φ l m
 | _,_=>False
def mL (Ψ Φ:PH):List Out->List Out->Prop
 | [],[]=>True
 | a :: l,b :: m=>(a.sh=b.sh∧mM Ψ Φ a.fs b.fs)∧mL Ψ Φ l m
 | _,_=>False
theorem fK.ok {Φ Ψ:PH}{X:Nat->Prop}{w:World}:∀{l m:List Arg}{vs:List Value},fK Φ Ψ l m->cB Φ X w l vs->cB Ψ X w m vs
 | [],[],[],_,_=>trivial
 | .fact _ :: _,.fact _ :: _,_ :: _,h,ha=>⟨fun w1 hw=>h.1 _ _ (ha.1 w1 hw),fK.ok h.2 ha.2⟩
 | .lit _ :: _,.lit _ :: _,_ :: _,h,ha=>⟨h.1▸ha.1,fK.ok h.2 ha.2⟩
 | .any :: _,.any :: _,_ :: _,h,ha=>⟨trivial,fK.ok h ha.2⟩
 | .lit _ :: _,.fact _ :: _,_ :: _,h,ha=>⟨fun w1 _=>by rw [show _=_ from ha.1];exact h.1 w1,fK.ok h.2 ha.2⟩
theorem mM.ok {Φ Ψ:PH}{X:Nat->Prop}{w:World}{v:Value}:∀{l m:List (Nat×Nat×Nat)},mM Ψ Φ l m->(∀q,q ∈ l->∀w1,Off X w w1->Ψ q.2.2 w1 (bi q.1 q.2.1 v))->∀q,q ∈ m->∀w1,Off X w w1->Φ q.2.2 w1 (bi q.1 q.2.1 v)
 | [],[],_,_,q,hq,_,_=>by cases hq
 | a :: l,b :: m,h,ha,q,hq,w1,hw=>by
  rcases List.mem_cons.1 hq with rfl | hq
  ·have:=ha a (List.mem_cons_self ..) w1 hw
   rw [<- h.1.1,<- h.1.2.1]
   exact h.1.2.2 _ _ this
  ·exact mM.ok h.2 (fun q hq=>ha q (List.mem_cons_of_mem _ hq)) q hq w1 hw
theorem mL.ok {Φ Ψ:PH}{X:Nat->Prop}{w:World}:∀{l m:List Out}{us:List Value},mL Ψ Φ l m->bh Ψ X w l us->bh Φ X w m us
 | [],[],[],_,_=>trivial
 | _ :: _,_ :: _,_ :: _,h,ha=>⟨⟨h.1.1▸ha.1.1,mM.ok h.1.2 ha.1.2⟩,mL.ok h.2 ha.2⟩
theorem aW {P:Program}{Φ Ψ:PH}{f:FuncId}{ar oH:List Arg}{outs oJ:List Out}{aT:Bool} (h:ai Ψ P ⟨f,oH,oJ,.call aT⟩) (ha:fK Φ Ψ ar oH) (ho:mL Ψ Φ oJ outs):ai Φ P ⟨f,ar,outs,.call aT⟩:=
 fun X w vs hX h'=>(h X w vs hX (ha.ok h')).mono fun _ _w' ⟨hg,us,he,h2⟩=>⟨hg,us,he,ho.ok h2⟩
def vH (F:PH) (z:Nat->Int) (n0:Nat):List WP:=[Rw 2 F n0,Nz n0,Ni ((tl z n0:Nat):Int),Rw 2 F (tl z n0)]
def Tk (F:PH) (z:Nat->Int) (n0:Nat) (j:Nat):List WP:=[Nz (n0-j),Nz (n0-(j+1)),Ptr 2 (F (n0-(j+1))),F (n0-(j+1)),Nw 0 0,Ni (dj (z (n0-(j+1))) (0:Int)),Nz (n0-(j+1))]
def DI:bg:=⟨[0,2,4,5],[(.slot 3,.i)],[(.one 0,4)],[.frm 1],4,[(4,2)]⟩
def DJ:List Step:=[.derive (.agg [.cb false,.nl]) (.agg [.lit (.cb false),.lit (.nl)]) [] 8,
   bQ [.fact 4,.lit (.ci .i64 0)] oT (ak .gtr),
   bQ [.fact 4,.lit (.ci .i64 1)] [oN 5] (ak .sub),
   bQ [.fact 0,.fact 5] [oP 6] (aG 28),
   bQ [.fact 6] [oI 7] (aM 52),
   .base ⟨66,[.fact 7,.fact 8],[oN 9],false⟩,
   bQ [.fact 9,.lit (.ci .i64 0)] oT (ak .eql),
   bQ [.fact 4,.lit (.ci .i64 1)] [oN 10] (ak .sub)]
def Tm:List Step:=[bQ [.fact 4,.lit (.ci .i64 0)] oF (ak .gtr)]
def Tq:List Step:=[bQ [.fact 0] [oN 1] (aD 28),
   .loop DI [(DJ,[.frm 10])] Tm,
   bQ [.fact 0,.fact 2] [oS 3] (dI 28)]
def Ts:List Out:=[oS 0]
theorem Tu {F:PH}{z:Nat->Int}{n0 k:Nat} (hF:∀i w v,F i w v->aC w v (z i) k) (hK:∀i w w1 v,Kp w w1->F i w v->F i w1 v) (hn:n0<=1000000) (hk:k<=500000) (ht:tl z n0=0):ai (ph (vH F z n0)) Tryz.prog ⟨60,[.fact 0],[oS 3],false⟩:=by
 have hle:=aF z n0
 exact aV Ts [oS 3] Tq Tryz.func60 (by kernel_rfl)
  (lB (aP (F:=F) Tryz.underlying28 ad rfl)
   (bz (counted (n0-tl z n0) (fun j=>ph (vH F z n0 ++ Tk F z n0 j)) (fun _=>0) (fun j p hp=>bB (show p<(vH F z n0).length from hp)) ⟨ad,trivial⟩ (fun j hj=>by
   have h0:z (n0-(j+1))=0:=fQ z n0 _ (by omega) (by omega)
   exact ⟨(DJ,[.frm 10]),rfl,⟨ad,trivial⟩,(ec (mq rfl)
   (lB (d3 ad)
   (lB (bK ad (by omega) rfl (by omega) (by omega))
   (lB (bZ (i:=(n0-(j+1))) (F:=F) Tryz.underlying28 (by kernel_rfl) ad ad (by omega) rfl)
   (lB (dW (sz:=2) (F:=F (n0-(j+1))) (by kernel_rfl) (by kernel_rfl) ad (fun w w1 v g h=>hK (n0-(j+1)) w w1 v g h) (fun w v h=>aC.is (hF (n0-(j+1)) w v h)) rfl)
   (lB (mr (hF (n0-(j+1))) nI rfl (by omega) rfl)
   (lB (bW (op:=.eql) ad (bN (decide_eq_true (by rw [h0];rfl)) (by simp)))
   (lB (bK ad (by omega) rfl (by omega) (by omega))
   aw))))))))⟩)
   (by
   have hle:=aF z n0
   exact (lB (jW ad)
   aw))
   (fun q hq w v h=>by
    simp only [DI,List.mem_cons,List.not_mem_nil,or_false] at hq
    rcases hq with rfl
    ·exact (fun h=>h.trans (congrArg (Value.int .i64) (by have:=aF z n0;omega))) h)) (lB (jX (m:=(tl z n0)) (n:=n0) (F:=F) Tryz.underlying28 (by kernel_rfl) ad ad (by first | omega | exact aF _ _) rfl)
   aw)))
  (aL [.fact 0 (.one (.s))] ⟨Rw.Is 2 F n0,trivial⟩) bc
def vI (F:PH) (z:Nat->Int) (n0:Nat):List WP:=[Rw 2 F n0,Nz n0,Ni ((tl z n0:Nat):Int),Rw 2 F (tl z n0)]
def Tv (F:PH) (z:Nat->Int) (n0:Nat) (j:Nat):List WP:=[Nz (n0-j),Nz (n0-(j+1)),Ptr 2 (F (n0-(j+1))),F (n0-(j+1)),Nw 0 0,Ni (dj (z (n0-(j+1))) (0:Int)),Nz (n0-(j+1)),Nz (tl z n0-1),Ptr 2 (F (tl z n0-1)),F (tl z n0-1),Nw 0 0,Ni (dj (z (tl z n0-1)) (0:Int))]
def DK:bg:=⟨[0,2,4,5],[(.slot 3,.i)],[(.one 0,4)],[.frm 1],4,[(4,2)]⟩
def DL:List Step:=[.derive (.agg [.cb false,.nl]) (.agg [.lit (.cb false),.lit (.nl)]) [] 8,
   bQ [.fact 4,.lit (.ci .i64 0)] oT (ak .gtr),
   bQ [.fact 4,.lit (.ci .i64 1)] [oN 5] (ak .sub),
   bQ [.fact 0,.fact 5] [oP 6] (aG 28),
   bQ [.fact 6] [oI 7] (aM 52),
   .base ⟨66,[.fact 7,.fact 8],[oN 9],false⟩,
   bQ [.fact 9,.lit (.ci .i64 0)] oT (ak .eql),
   bQ [.fact 4,.lit (.ci .i64 1)] [oN 10] (ak .sub)]
def Tw:List Step:=[.derive (.agg [.cb false,.nl]) (.agg [.lit (.cb false),.lit (.nl)]) [] 14,
   bQ [.fact 4,.lit (.ci .i64 0)] oT (ak .gtr),
   bQ [.fact 4,.lit (.ci .i64 1)] [oN 11] (ak .sub),
   bQ [.fact 0,.fact 11] [oP 12] (aG 28),
   bQ [.fact 12] [oI 13] (aM 52),
   .base ⟨66,[.fact 13,.fact 14],[oN 15],false⟩,
   bQ [.fact 15,.lit (.ci .i64 0)] oF (ak .eql)]
def Tx:List Step:=[bQ [.fact 0] [oN 1] (aD 28),
   .loop DK [(DL,[.frm 10])] Tw,
   bQ [.fact 0,.fact 2] [oS 3] (dI 28)]
def Ty:List Out:=[oS 0]
theorem Tz {F:PH}{z:Nat->Int}{n0 k:Nat} (hF:∀i w v,F i w v->aC w v (z i) k) (hK:∀i w w1 v,Kp w w1->F i w v->F i w1 v) (hn:n0<=1000000) (hk:k<=500000) (ht:0<tl z n0):ai (ph (vI F z n0)) Tryz.prog ⟨60,[.fact 0],[oS 3],false⟩:=by
 have hle:=aF z n0
 exact aV Ty [oS 3] Tx Tryz.func60 (by kernel_rfl)
  (lB (aP (F:=F) Tryz.underlying28 ad rfl)
   (bz (counted (n0-tl z n0) (fun j=>ph (vI F z n0 ++ Tv F z n0 j)) (fun _=>0) (fun j p hp=>bB (show p<(vI F z n0).length from hp)) ⟨ad,trivial⟩ (fun j hj=>by
   have h0:z (n0-(j+1))=0:=fQ z n0 _ (by omega) (by omega)
   exact ⟨(DL,[.frm 10]),rfl,⟨ad,trivial⟩,(ec (mq rfl)
   (lB (d3 ad)
   (lB (bK ad (by omega) rfl (by omega) (by omega))
   (lB (bZ (i:=(n0-(j+1))) (F:=F) Tryz.underlying28 (by kernel_rfl) ad ad (by omega) rfl)
   (lB (dW (sz:=2) (F:=F (n0-(j+1))) (by kernel_rfl) (by kernel_rfl) ad (fun w w1 v g h=>hK (n0-(j+1)) w w1 v g h) (fun w v h=>aC.is (hF (n0-(j+1)) w v h)) rfl)
   (lB (mr (hF (n0-(j+1))) nI rfl (by omega) rfl)
   (lB (bW (op:=.eql) ad (bN (decide_eq_true (by rw [h0];rfl)) (by simp)))
   (lB (bK ad (by omega) rfl (by omega) (by omega))
   aw))))))))⟩)
   (by
   have hle:=aF z n0;have hl:=gk z n0 ht
   exact (ec (mq rfl)
   (lB (d3 ad)
   (lB (bK ad (by omega) rfl (by omega) (by omega))
   (lB (bZ (i:=(tl z n0-1)) (F:=F) Tryz.underlying28 (by kernel_rfl) ad ad (by omega) rfl)
   (lB (dW (sz:=2) (F:=F (tl z n0-1)) (by kernel_rfl) (by kernel_rfl) ad (fun w w1 v g h=>hK (tl z n0-1) w w1 v g h) (fun w v h=>aC.is (hF (tl z n0-1) w v h)) rfl)
   (lB (mr (hF (tl z n0-1)) nI rfl (by omega) rfl)
   (lB (bW (op:=.eql) ad (bN (decide_eq_false (fun h=>hl (xV h))) (by simp)))
   aw))))))))
   (fun q hq w v h=>by
    simp only [DK,List.mem_cons,List.not_mem_nil,or_false] at hq
    rcases hq with rfl
    ·exact (fun h=>h.trans (congrArg (Value.int .i64) (by have:=aF z n0;omega))) h)) (lB (jX (m:=(tl z n0)) (n:=n0) (F:=F) Tryz.underlying28 (by kernel_rfl) ad ad (by first | omega | exact aF _ _) rfl)
   aw)))
  (aL [.fact 0 (.one (.s))] ⟨Rw.Is 2 F n0,trivial⟩) bc
section
variable {Φ:PH}{p x n k:Nat}{z:Nat->Int}{F:PH}
theorem gS (hp:∀w v,Φ p w v->Rw 2 F n w v) (hF:∀i w v,F i w v->aC w v (z i) k) (hK:∀i w w1 v,Kp w w1->F i w v->F i w1 v) (hx:Φ x=Rw 2 F (tl z n)) (hn:n<=1000000) (hk:k<=500000):ai Φ Tryz.prog ⟨60,[.fact p],[oS x],false⟩:=by
 rcases Nat.eq_zero_or_pos (tl z n) with h | h
 ·exact aW (Tu hF hK hn hk h) ⟨hp,trivial⟩ ⟨⟨rfl,⟨rfl,rfl,fun _ _ h=>hx▸h⟩,trivial⟩,trivial⟩
 ·exact aW (Tz hF hK hn hk h) ⟨hp,trivial⟩ ⟨⟨rfl,⟨rfl,rfl,fun _ _ h=>hx▸h⟩,trivial⟩,trivial⟩
end
def vJ (z:Nat->Int) (n:Nat):List WP:=[fun w v=>Rw 1 (fun i _ v=>v = .agg #[.int .i64 (z i)]) n w v,Nz n,ah 2 52 (Nf (upto 0 z) 2) n,Nz n,ah 2 52 (Nf (upto n z) 2) n,Rw 2 (Nf (upto n z) 2) (tl (upto n z) n)]
def TA (z:Nat->Int) (n:Nat) (j:Nat):List WP:=[Nz j,ah 2 52 (Nf (upto j z) 2) n,fun _ _=>True,fun w v=>Ptr 1 (fun _ v=>v = .agg #[.int .i64 (z j)]) w v,Ni (z j),Nw (z j) 2,At 2,Ptr 2 (Nw ((upto j z) j) 2),fun w v=>ah 2 52 (fun i w v=>af w v ((upto (j+1) z) i) 2) n w v,Nz (j+1)]
def DM:bg:=⟨[0,2,6,7,8,9,10],[(.slot 11,.i),(.slot 3,.s)],[(.one 0,6),(.one 1,.Ru [1] 7),(.one 1,.lo 1)],[.closed (.one (.ci .i64 0)),.frm 2,.frm 0],6,[(7,4)]⟩
def DN:List Step:=[bQ [.fact 6,.fact 3] oT (ak .lss),
   bQ [.fact 0,.fact 6] [oP 9] (aG 22),
   bQ [.fact 9] [oN 10] (aM 3),
   .base ⟨59,[.fact 10],[oI 11],false⟩,
   .base ⟨0,[.fact 7,.fact 6],[oP 13],.joint [1] 12 (aG 28)⟩,
   .base ⟨0,[.fact 7,.fact 6,.any,.fact 11],[oS 14],.put [] 1 0 12 (dV 52 (.tmp 16) (.tmp 17))⟩,
   bQ [.fact 6,.lit (.ci .i64 1)] [oN 15] (ak .add)]
def TB:List Step:=[bQ [.fact 6,.fact 3] oF (ak .lss)]
def TC:List Step:=[bQ [.fact 0] [oN 1] (aD 22),
   .base ⟨0,[.fact 1,.fact 1],[oS 2],.loose [] 1 0 (fp 28)⟩,
   bQ [.fact 0] [oN 3] (aD 22),
   .loop DM [(DN,[.frm 15,.frm 14,.frm 0])] TB,
   .base ⟨60,[.fact 4],[oS 5],.cE [1] false⟩]
def TD:List Out:=[oS 0]
theorem pof {z:Nat->Int}{n:Nat} (hn:n<=1000000) (hz:∀i,-9223372036854775808<=z i∧z i<=9223372036854775807):ai (ph (vJ z n)) Tryz.prog ⟨27,[.fact 0],[oS 5],false⟩:=by
 skip
 exact aV TD [oS 5] TC Tryz.func27 (by kernel_rfl)
  (lB (aP (F:=(fun i _ v=>v = .agg #[.int .i64 (z i)])) Tryz.underlying22 ad rfl)
   (lB (gZ (n:=n) (F:=(Nf (upto 0 z) 2)) ad (by omega) (fun i w=>af.zero w 2) rfl)
   (lB (aP (F:=(fun i _ v=>v = .agg #[.int .i64 (z i)])) Tryz.underlying22 ad rfl)
   (bz (counted n (fun j=>ph (vJ z n ++ TA z n j)) (fun _=>0) (fun j p hp=>bB (show p<(vJ z n).length from hp)) ⟨fun _=>rfl,ad,aS,trivial⟩ (fun j hj=>by
   skip
   exact ⟨(DN,[.frm 15,.frm 14,.frm 0]),rfl,⟨ad,ad,aS,trivial⟩,(lB (cU ad ad)
   (lB (bZ (i:=j) (F:=(fun i _ v=>v = .agg #[.int .i64 (z i)])) Tryz.underlying22 (by kernel_rfl) ad ad (by omega) rfl)
   (lB (Di (by kernel_rfl) ad rfl)
   (lB (lA ad rfl (by have:=hz j;omega) (by have:=hz j;omega) rfl)
   (lB (bI (i:=j) (sz:=2) (n:=n) (F:=(Nf (upto j z) 2)) Tryz.underlying28 (by kernel_rfl) (fun _ _ h=>ah.arr h) ad (by omega) rfl rfl)
   (lB (fo (i:=j) (n:=n) (F:=(fun i w v=>af w v ((upto j z) i) 2)) (F':=(fun i w v=>af w v ((upto (j+1) z) i) 2)) (G:=Nw (z j) 2) (.tmp 16) (.tmp 17) (by kernel_rfl) ad ad (by omega) ad rfl (fun _ _ h=>af.cells h) (fun _ _ _ _ g h=>af.kp h g) (fun _ _ _ g h=>af.kp h g) (fun i w v hi h=>by rw [ms hi];exact h) (fun w v h=>by rw [mt];exact h) rfl)
   (lB (cN ad (by omega) rfl (by omega) (by omega))
   aw)))))))⟩)
   (lB (tlF ad ad)
   aw)
   (fun q hq w v h=>by
    simp only [DM,List.mem_cons,List.not_mem_nil,or_false] at hq
    rcases hq with rfl
    ·exact (fun h=>h) h)) (lB (de [1] (gS (z:=(upto n z)) (n:=n) (k:=2) (F:=(Nf (upto n z) 2)) (fun _ _ h=>ah.rw h) (fun _ _ _ h=>af.i h) (fun _ _ _ _ g h=>af.kp h g) rfl (by omega) (by omega)))
   aw)))))
  (aL [.fact 0 (.one (.s))] ⟨Rw.Is 1 (fun i _ v=>v = .agg #[.int .i64 (z i)]) n,trivial⟩) bc
def TE (n:Nat):List WP:=[b9 n,Nz n,Ni (((n:Nat):Int)-1)]
def TF:List Step:=[bQ [.fact 0] [oN 1] (aD 28),
   bQ [.fact 1,.lit (.ci .i64 1)] [oN 2] (ak .sub)]
def TG:List Out:=[oS 0]
theorem TH {n:Nat} (hn:n<=1000000):ai (ph (TE n)) Tryz.prog ⟨49,[.fact 0],[oN 2],false⟩:=by
 skip
 exact aV TG [oN 2] TF Tryz.func49 (by kernel_rfl)
  (lB (ce (n:=n) Tryz.underlying28 ad rfl)
   (lB (bK ad (rfl) rfl (by omega) (by omega))
   aw))
  (aL [.fact 0 (.one (.s))] ⟨fun w _ h=>b9.is (n:=n) (w:=w) h,trivial⟩) bc
def TI (z:Nat->Int) (n k:Nat) (i:Nat):List WP:=[Rw 2 (If z k) n,Nz i,Nz n,Ptr 2 (Iw (z i) k),Iw (z i) k]
def TJ:List Step:=[bQ [.fact 0] [oN 2] (aD 28),
   bQ [.fact 1,.fact 2] oT (ak .lss),
   bQ [.fact 0,.fact 1] [oP 3] (aG 28),
   bQ [.fact 3] [oI 4] (aM 52)]
def TK:List Out:=[oS 0,oN 1]
theorem TM {z:Nat->Int}{n k:Nat}{i:Nat} (hi:i<n):ai (ph (TI z n k i)) Tryz.prog ⟨70,[.fact 0,.fact 1],[oI 4],false⟩:=by
 skip
 exact aV TK [oI 4] TJ Tryz.func70 (by kernel_rfl)
  (lB (aP (F:=(If z k)) Tryz.underlying28 ad rfl)
   (lB (cU ad ad)
   (lB (bZ (i:=i) (F:=(If z k)) Tryz.underlying28 (by kernel_rfl) ad ad (by omega) rfl)
   (lB (dW (sz:=2) (F:=Iw (z i) k) (by kernel_rfl) (by kernel_rfl) ad (fun _ _ _ g h=>aC.kp h g) (fun _ _ h=>aC.is h) rfl)
   aw))))
  (aL [.fact 0 (.one (.s)),.fact 1 (.one (.i))] ⟨Rw.Is 2 (If z k) n,fun _ _ h=>h▸eQ _,trivial⟩) (fun _ _ _ h=>h)
def TN (z:Nat->Int) (n k:Nat) (i:Nat):List WP:=[Rw 2 (If z k) n,Nz i,Nz n]
def TO:List Step:=[bQ [.fact 0] [oN 2] (aD 28),
   bQ [.fact 1,.fact 2] oF (ak .lss)]
def TP:List Out:=[oS 0,oN 1]
theorem TQ {z:Nat->Int}{n k:Nat}{i:Nat} (hi:n<=i):ai (ph (TN z n k i)) Tryz.prog ⟨70,[.fact 0,.fact 1],[⟨.agg [.lit (.cb false),.lit (.nl)],[]⟩],false⟩:=by
 skip
 exact aV TP [⟨.agg [.lit (.cb false),.lit (.nl)],[]⟩] TO Tryz.func70 (by kernel_rfl)
  (lB (aP (F:=(If z k)) Tryz.underlying28 ad rfl)
   (lB (tlF ad ad)
   aw))
  (aL [.fact 0 (.one (.s)),.fact 1 (.one (.i))] ⟨Rw.Is 2 (If z k) n,fun _ _ h=>h▸eQ _,trivial⟩) (fun _ _ _ h=>h)
theorem DO {n i:Nat}{f:Nat->Int} (h:i<n):upto n f i=ae (be (mk n f)) i:=by rw [nw,fl,fD h,if_pos h]
theorem TR (n:Nat) (f:Nat->Int):tl (upto n f) n=(be (mk n f)).length:=by
 rw [gl];exact nD fun i hi=>fD hi
theorem vD {n k:Nat}{f:Nat->Int}{w:World}{v:Value} (h:Rw 2 (Nf (upto n f) k) (tl (upto n f) n) w v):Rw 2 (Nf (ae (be (mk n f))) k) (be (mk n f)).length w v:=
 Rw.len (Rw.to h fun i w v hi h=>by show af w v _ k;rw [<- DO (Nat.lt_of_lt_of_le hi (aF _ _))];exact h) (TR n f)
section
variable {Φ:PH}{p q x n k i:Nat}{z:Nat->Int}{t:Int}
theorem gO {zs:List Int} (hp:∀w v,Φ p w v->Rw 1 (fun i _ v=>v = .agg #[.int .i64 (z i)]) n w v) (hx:Φ x=Rw 2 (Nf (ae zs) 2) zs.length) (hn:n<=1000000) (hz:∀i,-9223372036854775808<=z i∧z i<=9223372036854775807) (hzs:be (mk n z)=zs):ai Φ Tryz.prog ⟨27,[.fact p],[oS x],false⟩:=
 aW (pof hn hz) ⟨hp,trivial⟩ ⟨⟨rfl,⟨rfl,rfl,fun _ _ h=>hx▸hzs▸vD h⟩,trivial⟩,trivial⟩
theorem iL (hp:∀w v,Φ p w v->b9 n w v) (hx:Φ x=Ni t) (hn:n<=1000000) (ht:((n:Nat):Int)-1=t):ai Φ Tryz.prog ⟨49,[.fact p],[oN x],false⟩:=
 aW (TH hn) ⟨hp,trivial⟩ ⟨⟨rfl,⟨rfl,rfl,fun _ _ h=>hx▸ht▸h⟩,trivial⟩,trivial⟩
theorem TS {w:World}{us:List Value}{X:Nat->Prop} (hx:Φ x=Iw 0 k) (h:bh Φ X w [⟨.agg [.lit (.cb false),.lit .nl],[]⟩] us):bh Φ X w [⟨iS,[(0,0,x)]⟩] us:=by
 match us,h with
 | [u],h=>
  obtain ⟨⟨⟨vs,rfl,h2⟩,_⟩,_⟩:=h
  match vs,h2 with
  | [v0,v1],h2=>
   obtain ⟨e0,e1,_⟩:=h2
   have n8:v0 = .bool false:=e0
   have e1':v1 = .slice none 0 0:=e1
   subst n8;subst e1'
   exact cJ q3 hx fun w1 _=>(af.zero w1 k).i
theorem vC (hp:∀w v,Φ p w v->Rw 2 (If z k) n w v) (hq:∀w v,Φ q w v->v = .int .i64 (i:Int)) (hx:Φ x=Iw t k) (_hn:n<=1000000) (h1:i<n->z i=t) (h2:n<=i->t=0):ai Φ Tryz.prog ⟨70,[.fact p,.fact q],[⟨iS,[(0,0,x)]⟩],false⟩:=by
 rcases Nat.lt_or_ge i n with h | h
 ·exact aW (TM (z:=z) (k:=k) (n:=n) h) ⟨hp,hq,trivial⟩ ⟨⟨rfl,⟨rfl,rfl,fun _ _ h'=>hx▸h1 h▸h'⟩,trivial⟩,trivial⟩
 ·intro X w vs hX ha
  have ht:=h2 h
  subst ht
  refine (aW (outs:=[⟨.agg [.lit (.cb false),.lit .nl],[]⟩]) (Φ:=Φ) (ar:=[.fact p,.fact q]) (TQ (z:=z) (k:=k) (n:=n) h) ⟨hp,hq,trivial⟩ ⟨⟨rfl,trivial⟩,trivial⟩ X w vs hX ha).mono fun e w' ⟨hg,us,he,h2⟩=>⟨hg,us,he,TS hx h2⟩
end
def KI (w:World) (v:Value) (b:Bool) (xs:List Nat) (z:Int) (k:Nat):Prop:=cH w v b xs∧aC w v z k
theorem KI.kp {w w':World}{v:Value}{b:Bool}{xs:List Nat}{z:Int}{k:Nat} (h:KI w v b xs z k) (g:Kp w w'):KI w' v b xs z k:=⟨h.1.kp g,h.2.kp g⟩
theorem KI.iH {b:Bool}{xs:List Nat}{z:Int}{k:Nat}{w:World}{l:List Value} (h:KI w (.agg l.toArray) b xs z k):∀u,u ∈ l->u.oneCell'=true∧cM u:=aC.iH h.2
theorem aQ.fst' {q:Rat}{k:Nat}{w:World}{l:List Value} (h:aQ w (.agg l.toArray) q k):an w (.agg ((l.drop 0).take 2).toArray) q.num k:=by
 have:=aQ.fst h
 simpa [bi,cellsOf,Value.cells] using this
theorem aQ.snd' {q:Rat}{k:Nat}{w:World}{l:List Value} (h:aQ w (.agg l.toArray) q k):an w (.agg ((l.drop 2).take 2).toArray) (q.den:Int) k:=by
 have:=aQ.snd h
 simpa [bi,cellsOf,Value.cells] using this
theorem TU (z:Int):ch z 1=((z:Int):Rat):=by
 rw [TV,<- Rat.mk_den_one,Rat.mk_eq_divInt];rfl
theorem TW (z:Int):dj (((z:Int):Rat).den:Int) 1=0:=by
 show dj 1 1=0
 decide
section
variable {Φ:PH}{p q x x1 x2 i j:Nat}
theorem TX {z y:Int}{t:Rat} (hp:∀w v,Φ p w v->v = .int .i64 z) (hx:Φ x=Dw t 6) (hx1:Φ x1=fun w v=>an w v t.num 6) (hx2:Φ x2=fun w v=>an w v (t.den:Int) 6) (z1 : -9223372036854775808<=z) (z2:z<=9223372036854775807) (y1 : -9223372036854775808<=y) (y2:y<=9223372036854775807) (ht:ch z y=t):ai Φ Tryz.prog ⟨61,[.fact p,.lit (.ci .i64 y)],[⟨sS,[(0,0,x),(0,2,x1),(2,2,x2)]⟩],false⟩:=
 gL fun _ w v u h0 h1=>by
  obtain rfl:=hp _ _ (get h0)
  obtain rfl:u = .int .i64 y:=h1
  exact (TY z y z1 z2 y1 y2 ht).mono fun _ _ h=>DQ hx hx1 hx2 h
theorem TZ {z y r:Int} (hp:∀w v,Φ p w v->an w v z i) (hq:∀w v,Φ q w v->an w v y j) (hi:i+j<=1000000) (hr:dj z y=r):ai Φ Tryz.prog ⟨83,[.fact p,.fact q],[oL (.ci .i64 r)],false⟩:=
 gL fun _ _ _ _ h0 h1=>(T0 r (hp _ _ (get h0)) (hq _ _ (get h1)) hi hr).mono fun _ _ h=>T1 h
end
def vK (q:Nat->Rat) (n0 k:Nat):List WP:=[Rw 4 (Df q k) n0,Nz n0,Nz (tl (fun ι=>(q ι).num) n0),Rw 4 (Df q k) (tl (fun ι=>(q ι).num) n0)]
def T2 (q:Nat->Rat) (n0 k:Nat) (j:Nat):List WP:=[Nz (n0-j),Nz (n0-(j+1)),Ptr 4 (Dw (q (n0-(j+1))) k),fun w v=>Ptr 2 (fun w v=>an w v ((q (n0-(j+1))).num) k) w v,fun w v=>an w v ((q (n0-(j+1))).num) k,Nz (n0-(j+1))]
def DR:bg:=⟨[0,2,4,5],[(.slot 3,.i)],[(.one 0,4)],[.frm 1],4,[(4,2)]⟩
def DS:List Step:=[bQ [.fact 4,.lit (.ci .i64 0)] oT (ak .gtr),
   bQ [.fact 4,.lit (.ci .i64 1)] [oN 5] (ak .sub),
   bQ [.fact 0,.fact 5] [oP 6] (aG 24),
   bQ [.fact 6] [oP 7] (lG 58 0),
   bQ [.fact 7] [oD 8] (aM 56),
   .base ⟨78,[.fact 8],oT,false⟩,
   bQ [.fact 4,.lit (.ci .i64 1)] [oN 9] (ak .sub)]
def T3:List Step:=[bQ [.fact 4,.lit (.ci .i64 0)] oF (ak .gtr)]
def T4:List Step:=[bQ [.fact 0] [oN 1] (aD 24),
   .loop DR [(DS,[.frm 9])] T3,
   bQ [.fact 0,.fact 2] [oS 3] (dI 24)]
def T5:List Out:=[oS 0]
theorem T6 {q:Nat->Rat}{n0 k:Nat} (hn:n0<=1000000) (_hk:k<=500000) (ht:(tl (fun ι=>(q ι).num) n0)=0):ai (ph (vK q n0 k)) Tryz.prog ⟨43,[.fact 0],[oS 3],false⟩:=by
 have hle:=aF (fun ι=>(q ι).num) n0
 exact aV T5 [oS 3] T4 Tryz.func43 (by kernel_rfl)
  (lB (aP (F:=(Df q k)) Tryz.underlying24 ad rfl)
   (bz (counted (n0-(tl (fun ι=>(q ι).num) n0)) (fun j=>ph (vK q n0 k ++ T2 q n0 k j)) (fun _=>0) (fun j p hp=>bB (show p<(vK q n0 k).length from hp)) ⟨ad,trivial⟩ (fun j hj=>by
   have h0:(q (n0-(j+1))).num=0:=fQ (fun ι=>(q ι).num) n0 _ (by omega) (by omega)
   exact ⟨(DS,[.frm 9]),rfl,⟨ad,trivial⟩,(lB (d3 ad)
   (lB (bK ad (by omega) rfl (by omega) (by omega))
   (lB (bZ (i:=(n0-(j+1))) (F:=(Df q k)) Tryz.underlying24 (by kernel_rfl) ad ad (by omega) rfl)
   (lB (oC (off:=0) (len:=2) (sz:=4) (F:=Dw (q (n0-(j+1))) k) (G:=fun w v=>an w v ((q (n0-(j+1))).num) k) (by kernel_rfl) ad (by omega) (fun _ _ h=>aQ.fst' h) rfl)
   (lB (dW (sz:=2) (F:=fun w v=>an w v ((q (n0-(j+1))).num) k) (by kernel_rfl) (by kernel_rfl) ad (fun _ _ _ g h=>an.kp h g) (fun _ _ h=>an.is h) rfl)
   (lB (jo dD (decide_eq_true h0))
   (lB (bK ad (by omega) rfl (by omega) (by omega))
   aw)))))))⟩)
   (by
   have hle:=aF (fun ι=>(q ι).num) n0
   exact (lB (jW ad)
   aw))
   (fun q hq w v h=>by
    simp only [DR,List.mem_cons,List.not_mem_nil,or_false] at hq
    rcases hq with rfl
    ·exact (fun h=>h.trans (congrArg (Value.int .i64) (by have:=aF (fun ι=>(q ι).num) n0;omega))) h)) (lB (jX (m:=(tl (fun ι=>(q ι).num) n0)) (n:=n0) (F:=(Df q k)) Tryz.underlying24 (by kernel_rfl) ad ad (by first | omega | exact aF _ _) rfl)
   aw)))
  (aL [.fact 0 (.one (.s))] ⟨Rw.Is 4 (Df q k) n0,trivial⟩) bc
def vL (q:Nat->Rat) (n0 k:Nat):List WP:=[Rw 4 (Df q k) n0,Nz n0,Nz (tl (fun ι=>(q ι).num) n0),Rw 4 (Df q k) (tl (fun ι=>(q ι).num) n0)]
def T7 (q:Nat->Rat) (n0 k:Nat) (j:Nat):List WP:=[Nz (n0-j),Nz (n0-(j+1)),Ptr 4 (Dw (q (n0-(j+1))) k),fun w v=>Ptr 2 (fun w v=>an w v ((q (n0-(j+1))).num) k) w v,fun w v=>an w v ((q (n0-(j+1))).num) k,Nz (n0-(j+1)),Ni ((((tl (fun ι=>(q ι).num) n0)-1):Nat):Int),Ptr 4 (Dw (q ((tl (fun ι=>(q ι).num) n0)-1)) k),fun w v=>Ptr 2 (fun w v=>an w v ((q ((tl (fun ι=>(q ι).num) n0)-1)).num) k) w v,fun w v=>an w v ((q ((tl (fun ι=>(q ι).num) n0)-1)).num) k]
def DT:bg:=⟨[0,2,4,5],[(.slot 3,.i)],[(.one 0,4)],[.frm 1],4,[(4,2)]⟩
def DU:List Step:=[bQ [.fact 4,.lit (.ci .i64 0)] oT (ak .gtr),
   bQ [.fact 4,.lit (.ci .i64 1)] [oN 5] (ak .sub),
   bQ [.fact 0,.fact 5] [oP 6] (aG 24),
   bQ [.fact 6] [oP 7] (lG 58 0),
   bQ [.fact 7] [oD 8] (aM 56),
   .base ⟨78,[.fact 8],oT,false⟩,
   bQ [.fact 4,.lit (.ci .i64 1)] [oN 9] (ak .sub)]
def T8:List Step:=[bQ [.fact 4,.lit (.ci .i64 0)] oT (ak .gtr),
   bQ [.fact 4,.lit (.ci .i64 1)] [oN 10] (ak .sub),
   bQ [.fact 0,.fact 10] [oP 11] (aG 24),
   bQ [.fact 11] [oP 12] (lG 58 0),
   bQ [.fact 12] [oD 13] (aM 56),
   .base ⟨78,[.fact 13],oF,false⟩]
def T9:List Step:=[bQ [.fact 0] [oN 1] (aD 24),
   .loop DT [(DU,[.frm 9])] T8,
   bQ [.fact 0,.fact 2] [oS 3] (dI 24)]
def Ua:List Out:=[oS 0]
theorem Ub {q:Nat->Rat}{n0 k:Nat} (hn:n0<=1000000) (_hk:k<=500000) (ht:0<(tl (fun ι=>(q ι).num) n0)):ai (ph (vL q n0 k)) Tryz.prog ⟨43,[.fact 0],[oS 3],false⟩:=by
 have hle:=aF (fun ι=>(q ι).num) n0
 exact aV Ua [oS 3] T9 Tryz.func43 (by kernel_rfl)
  (lB (aP (F:=(Df q k)) Tryz.underlying24 ad rfl)
   (bz (counted (n0-(tl (fun ι=>(q ι).num) n0)) (fun j=>ph (vL q n0 k ++ T7 q n0 k j)) (fun _=>0) (fun j p hp=>bB (show p<(vL q n0 k).length from hp)) ⟨ad,trivial⟩ (fun j hj=>by
   have h0:(q (n0-(j+1))).num=0:=fQ (fun ι=>(q ι).num) n0 _ (by omega) (by omega)
   exact ⟨(DU,[.frm 9]),rfl,⟨ad,trivial⟩,(lB (d3 ad)
   (lB (bK ad (by omega) rfl (by omega) (by omega))
   (lB (bZ (i:=(n0-(j+1))) (F:=(Df q k)) Tryz.underlying24 (by kernel_rfl) ad ad (by omega) rfl)
   (lB (oC (off:=0) (len:=2) (sz:=4) (F:=Dw (q (n0-(j+1))) k) (G:=fun w v=>an w v ((q (n0-(j+1))).num) k) (by kernel_rfl) ad (by omega) (fun _ _ h=>aQ.fst' h) rfl)
   (lB (dW (sz:=2) (F:=fun w v=>an w v ((q (n0-(j+1))).num) k) (by kernel_rfl) (by kernel_rfl) ad (fun _ _ _ g h=>an.kp h g) (fun _ _ h=>an.is h) rfl)
   (lB (jo dD (decide_eq_true h0))
   (lB (bK ad (by omega) rfl (by omega) (by omega))
   aw)))))))⟩)
   (by
   have hle:=aF (fun ι=>(q ι).num) n0;have hl:=gk (fun ι=>(q ι).num) n0 ht
   exact (lB (d3 ad)
   (lB (bK ad (by omega) rfl (by omega) (by omega))
   (lB (bZ (i:=((tl (fun ι=>(q ι).num) n0)-1)) (F:=(Df q k)) Tryz.underlying24 (by kernel_rfl) ad ad (by omega) rfl)
   (lB (oC (off:=0) (len:=2) (sz:=4) (F:=Dw (q ((tl (fun ι=>(q ι).num) n0)-1)) k) (G:=fun w v=>an w v ((q ((tl (fun ι=>(q ι).num) n0)-1)).num) k) (by kernel_rfl) ad (by omega) (fun _ _ h=>aQ.fst' h) rfl)
   (lB (dW (sz:=2) (F:=fun w v=>an w v ((q ((tl (fun ι=>(q ι).num) n0)-1)).num) k) (by kernel_rfl) (by kernel_rfl) ad (fun _ _ _ g h=>an.kp h g) (fun _ _ h=>an.is h) rfl)
   (lB (jo dD (decide_eq_false hl))
   aw)))))))
   (fun q hq w v h=>by
    simp only [DT,List.mem_cons,List.not_mem_nil,or_false] at hq
    rcases hq with rfl
    ·exact (fun h=>h.trans (congrArg (Value.int .i64) (by have:=aF (fun ι=>(q ι).num) n0;omega))) h)) (lB (jX (m:=(tl (fun ι=>(q ι).num) n0)) (n:=n0) (F:=(Df q k)) Tryz.underlying24 (by kernel_rfl) ad ad (by first | omega | exact aF _ _) rfl)
   aw)))
  (aL [.fact 0 (.one (.s))] ⟨Rw.Is 4 (Df q k) n0,trivial⟩) bc
section
variable {Φ:PH}{p x n k:Nat}{q:Nat->Rat}
theorem Uc (hp:∀w v,Φ p w v->Rw 4 (Df q k) n w v) (hx:Φ x=Rw 4 (Df q k) (tl (fun i=>(q i).num) n)) (hn:n<=1000000) (hk:k<=500000):ai Φ Tryz.prog ⟨43,[.fact p],[oS x],false⟩:=by
 rcases Nat.eq_zero_or_pos (tl (fun i=>(q i).num) n) with h | h
 ·exact aW (T6 hn hk h) ⟨hp,trivial⟩ ⟨⟨rfl,⟨rfl,rfl,fun _ _ h=>hx▸h⟩,trivial⟩,trivial⟩
 ·exact aW (Ub hn hk h) ⟨hp,trivial⟩ ⟨⟨rfl,⟨rfl,rfl,fun _ _ h=>hx▸h⟩,trivial⟩,trivial⟩
end
def vM (z:Nat->Int) (n:Nat):List WP:=[fun w v=>Rw 1 (fun i _ v=>v = .agg #[.int .i64 (z i)]) n w v,Nz n,fun w v=>ah 4 58 (fun ι w v=>aQ w v (((z ι:Int):Rat)) 6) n w v,fun w v=>Rw 4 (fun ι w v=>aQ w v (((z ι:Int):Rat)) 6) (tl (fun ι=>(((z ι:Int):Rat)).num) n) w v]
def Ud (z:Nat->Int) (j:Nat):List WP:=[Nz j,fun w v=>ah 4 58 (fun ι w v=>aQ w v (((z ι:Int):Rat)) 6) j w v,fun _ _=>True,fun w v=>Ptr 1 (fun _ v=>v = .agg #[.int .i64 (z j)]) w v,Ni (z j),Dw (ch (z j) 1) 6,fun w v=>an w v ((ch (z j) 1).num) 6,fun w v=>an w v ((ch (z j) 1).den:Int) 6,fun w v=>ah 4 58 (fun ι w v=>aQ w v (((z ι:Int):Rat)) 6) (j+1) w v,Nz (j+1)]
def DV:bg:=⟨[0,2,5,6],[(.slot 7,.i),(.slot 3,.s)],[(.one 0,4),(.one 1,.Ru [1] 5),(.one 1,.lo 1)],[.closed (.one (.ci .i64 0)),.closed (.one (.nl)),.frm 0],4,[(5,2)]⟩
def DW:List Step:=[bQ [.fact 4,.fact 1] oT (ak .lss),
   bQ [.fact 0,.fact 4] [oP 7] (aG 22),
   bQ [.fact 7] [oN 8] (aM 3),
   .base ⟨61,[.fact 8,.lit (.ci .i64 1)],[⟨.agg [.s,.b,.s,.b],[(0,0,9),(0,2,10),(2,2,11)]⟩],false⟩,
   .base ⟨0,[.fact 5,.row 4 [9]],[oS 12],.loose [] 1 0 (fN 24 24)⟩,
   bQ [.fact 4,.lit (.ci .i64 1)] [oN 13] (ak .add)]
def Ue:List Step:=[bQ [.fact 4,.fact 1] oF (ak .lss)]
def Uf:List Step:=[bQ [.fact 0] [oN 1] (aD 22),
   .loop DV [(DW,[.frm 13,.frm 12,.frm 0])] Ue,
   .base ⟨43,[.fact 2],[oS 3],.cE [1] false⟩]
def Ug:List Out:=[oS 0]
theorem rof {z:Nat->Int}{n:Nat} (hn:n<=1000000) (hz:∀i,-9223372036854775808<=z i∧z i<=9223372036854775807):ai (ph (vM z n)) Tryz.prog ⟨28,[.fact 0],[oS 3],false⟩:=by
 skip
 exact aV Ug [oS 3] Uf Tryz.func28 (by kernel_rfl)
  (lB (aP (F:=(fun i _ v=>v = .agg #[.int .i64 (z i)])) Tryz.underlying22 ad rfl)
   (bz (counted n (fun j=>ph (vM z n ++ Ud z j)) (fun _=>0) (fun j p hp=>bB (show p<(vM z n).length from hp)) ⟨fun _=>rfl,fun w=>ah.nil 4 58 (fun ι w v=>aQ w v (((z ι:Int):Rat)) 6) w,aS,trivial⟩ (fun j hj=>by
   skip
   exact ⟨(DW,[.frm 13,.frm 12,.frm 0]),rfl,⟨ad,ad,aS,trivial⟩,(lB (cU ad ad)
   (lB (bZ (i:=j) (F:=(fun i _ v=>v = .agg #[.int .i64 (z i)])) Tryz.underlying22 (by kernel_rfl) ad ad (by omega) rfl)
   (lB (Di (by kernel_rfl) ad rfl)
   (lB (TX (y:=1) ad rfl rfl rfl (by have:=hz j;omega) (by have:=hz j;omega) (by decide) (by decide) rfl)
   (lB (Sd (n:=j) (F:=(fun ι w v=>aQ w v (((z ι:Int):Rat)) 6)) (fun _ _ _ _ g h=>aQ.kp h g) ad (fun _ _ h=>h.eq (TU _)) (fun _ _ h=>aQ.iH h) (by omega) rfl)
   (lB (cN ad (by omega) rfl (by omega) (by omega))
   aw))))))⟩)
   (lB (tlF ad ad)
   aw)
   (fun q hq w v h=>by
    simp only [DV,List.mem_cons,List.not_mem_nil,or_false] at hq
    rcases hq with rfl
    ·exact (fun h=>h) h)) (lB (de [1] (Uc (q:=(fun ι=>((z ι:Int):Rat))) (n:=n) (k:=6) (fun _ _ h=>ah.rw h) rfl (by omega) (by omega)))
   aw)))
  (aL [.fact 0 (.one (.s))] ⟨Rw.Is 1 (fun i _ v=>v = .agg #[.int .i64 (z i)]) n,trivial⟩) bc
def vN (z:Nat->Int) (n k kq:Nat):List WP:=[fun w v=>Rw 4 (fun ι w v=>aQ w v (((z ι:Int):Rat)) kq) n w v,Rw 2 (Nf z k) n,Nz n,Nz n,Nz n]
def Uh (z:Nat->Int) (k kq:Nat) (j:Nat):List WP:=[Nz j,Ptr 4 (Dw (((z j:Int):Rat)) kq),fun w v=>Ptr 2 (fun w v=>an w v ((((z j:Int):Rat)).num) kq) w v,fun w v=>an w v ((((z j:Int):Rat)).num) kq,Ptr 2 (Nw (z j) k),Nw (z j) k,Ptr 4 (Dw (((z j:Int):Rat)) kq),fun w v=>Ptr 2 (fun w v=>an w v ((((z j:Int):Rat)).den:Int) kq) w v,fun w v=>an w v ((((z j:Int):Rat)).den:Int) kq,fun w v=>an w v (1:Int) 2,Nz (j+1)]
def Ui:bg:=⟨[0,1,4,6,7,8,9,10,11,12],[(.slot 13,.i)],[(.one 0,5)],[.closed (.one (.ci .i64 0))],5,[]⟩
def DX:List Step:=[bQ [.fact 5,.fact 4] oT (ak .lss),
   bQ [.fact 0,.fact 5] [oP 6] (aG 24),
   bQ [.fact 6] [oP 7] (lG 58 0),
   bQ [.fact 7] [oD 8] (aM 56),
   bQ [.fact 1,.fact 5] [oP 9] (aG 28),
   bQ [.fact 9] [oI 10] (aM 52),
   .base ⟨82,[.fact 8,.fact 10],oT,false⟩,
   bQ [.fact 0,.fact 5] [oP 11] (aG 24),
   bQ [.fact 11] [oP 12] (lG 58 1),
   bQ [.fact 12] [oD 13] (aM 56),
   .base ⟨52,[.lit (.ci .i64 1)],[oD 14],false⟩,
   .base ⟨83,[.fact 13,.fact 14],[oL (.ci .i64 0)],false⟩,
   bQ [.fact 5,.lit (.ci .i64 1)] [oN 15] (ak .add)]
def Uj:List Step:=[bQ [.fact 5,.fact 4] oF (ak .lss)]
def Uk:List Step:=[bQ [.fact 0] [oN 2] (aD 24),
   bQ [.fact 1] [oN 3] (aD 28),
   bQ [.fact 2,.fact 3] oF (ak .neq),
   bQ [.fact 0] [oN 4] (aD 24),
   .loop Ui [(DX,[.frm 15])] Uj]
def Ul:List Out:=[oS 0,oS 1]
theorem Um {z:Nat->Int}{n k kq:Nat} (hn:n<=1000000) (hkq:kq<=500000) (_hk:k<=500000):ai (ph (vN z n k kq)) Tryz.prog ⟨46,[.fact 0,.fact 1],oT,false⟩:=by
 skip
 exact aV Ul oT Uk Tryz.func46 (by kernel_rfl)
  (lB (aP (F:=(fun ι w v=>aQ w v (((z ι:Int):Rat)) kq)) Tryz.underlying24 ad rfl)
   (lB (aP (F:=(Nf z k)) Tryz.underlying28 ad rfl)
   (lB (jh (op:=.neq) ad ad (bN (decide_eq_false (fun h=>h rfl)) (by simp)))
   (lB (aP (F:=(fun ι w v=>aQ w v (((z ι:Int):Rat)) kq)) Tryz.underlying24 ad rfl)
   (bz (counted n (fun j=>ph (vN z n k kq ++ Uh z k kq j)) (fun _=>0) (fun j p hp=>bB (show p<(vN z n k kq).length from hp)) ⟨fun _=>rfl,trivial⟩ (fun j hj=>by
   skip
   exact ⟨(DX,[.frm 15]),rfl,⟨ad,trivial⟩,(lB (cU ad ad)
   (lB (bZ (i:=j) (F:=(fun ι w v=>aQ w v (((z ι:Int):Rat)) kq)) Tryz.underlying24 (by kernel_rfl) ad ad (by omega) rfl)
   (lB (oC (off:=0) (len:=2) (sz:=4) (F:=Dw (((z j:Int):Rat)) kq) (G:=fun w v=>an w v ((((z j:Int):Rat)).num) kq) (by kernel_rfl) ad (by omega) (fun _ _ h=>aQ.fst' h) rfl)
   (lB (dW (sz:=2) (F:=fun w v=>an w v ((((z j:Int):Rat)).num) kq) (by kernel_rfl) (by kernel_rfl) ad (fun _ _ _ g h=>an.kp h g) (fun _ _ h=>an.is h) rfl)
   (lB (bZ (i:=j) (F:=(Nf z k)) Tryz.underlying28 (by kernel_rfl) ad ad (by omega) rfl)
   (lB (dW (sz:=2) (F:=Nw (z j) k) (by kernel_rfl) (by kernel_rfl) ad (fun _ _ _ g h=>af.kp h g) (fun _ _ h=>af.is h) rfl)
   (lB (Un dD nN (by omega) rfl rfl)
   (lB (bZ (i:=j) (F:=(fun ι w v=>aQ w v (((z ι:Int):Rat)) kq)) Tryz.underlying24 (by kernel_rfl) ad ad (by omega) rfl)
   (lB (oC (off:=2) (len:=2) (sz:=4) (F:=Dw (((z j:Int):Rat)) kq) (G:=fun w v=>an w v ((((z j:Int):Rat)).den:Int) kq) (by kernel_rfl) ad (by omega) (fun _ _ h=>aQ.snd' h) rfl)
   (lB (dW (sz:=2) (F:=fun w v=>an w v ((((z j:Int):Rat)).den:Int) kq) (by kernel_rfl) (by kernel_rfl) ad (fun _ _ _ g h=>an.kp h g) (fun _ _ h=>an.is h) rfl)
   (lB (Uo (z:=1) rfl (by decide) (by decide) rfl)
   (lB (TZ dD dD (by omega) (TW _))
   (lB (cN ad (by omega) rfl (by omega) (by omega))
   aw)))))))))))))⟩)
   (lB (tlF ad ad)
   aw)
   (fun q hq=>by cases hq)) aw)))))
  (aL [.fact 0 (.one (.s)),.fact 1 (.one (.s))] ⟨Rw.Is 4 (fun ι w v=>aQ w v (((z ι:Int):Rat)) kq) n,Rw.Is 2 (Nf z k) n,trivial⟩) bc
section
variable {Φ:PH}{p q x n k kq:Nat}{z:Nat->Int}
theorem RH (hp:∀w v,Φ p w v->Rw 4 (fun i w v=>aQ w v ((z i:Int):Rat) kq) n w v) (hq:∀w v,Φ q w v->Rw 2 (Nf z k) n w v) (hn:n<=1000000) (hkq:kq<=500000) (hk:k<=500000):ai Φ Tryz.prog ⟨46,[.fact p,.fact q],oT,false⟩:=
 aW (Um hn hkq hk) ⟨hp,hq,trivial⟩ ⟨⟨rfl,trivial⟩,trivial⟩
end
section
variable {Φ:PH}{p q r x n n0 k K m kq:Nat}{z:Nat->Int}
theorem Up {k:Nat}{L:List Int}{w:World}{v:Value} (hL:be (mk n z)=L) (h:Rw 4 (fun i w v=>aQ w v ((z i:Int):Rat) k) (tl z n) w v):Rw 4 (fun i w v=>aQ w v ((ae L i:Int):Rat) k) L.length w v:=by
 subst hL
 exact Rw.len (Rw.to h fun i w v hi h=>by show aQ w v ((ae _ i:Int):Rat) k;rw [<- DO (Nat.lt_of_lt_of_le hi (aF _ _)),fD (Nat.lt_of_lt_of_le hi (aF _ _))];exact h) (by rw [gl])
theorem tL {L:List Int} (hp:∀w v,Φ p w v->Rw 1 (fun i _ v=>v = .agg #[.int .i64 (z i)]) n w v) (hx:Φ x=fun w v=>Rw 4 (fun i w v=>aQ w v ((ae L i:Int):Rat) 6) L.length w v) (hn:n<=1000000) (hz:∀i,-9223372036854775808<=z i∧z i<=9223372036854775807) (hL:be (mk n z)=L):ai Φ Tryz.prog ⟨28,[.fact p],[oS x],false⟩:=
 aW (rof hn hz) ⟨hp,trivial⟩ ⟨⟨rfl,⟨rfl,rfl,fun _ _ h=>hx▸Up hL h⟩,trivial⟩,trivial⟩
end
end Go.Proofs.YtbokonbbokhjlaaGreat.Sym
