/- poly.trim; contracts told in one list of predicates, told in another. poly.Of, Deg, coefficient, Lead. keep.Poly; the reference's polynomials: cut, From, Of, Same. -/
import Derived.Test.YtomamliepbhegaaPolC
set_option maxRecDepth 100000
namespace Go.Proofs.Ytomamliepbhegaa.Sym
open Go.RowKit
theorem EJ {z:Int} (h:cn z 0=0):z=0:=by
 unfold cn at h
 split at h
 ·cases h
 ·split at h
  ·assumption
  ·cases h
def gf (Ψ Φ:PH):List (Nat×Nat×Nat)->List (Nat×Nat×Nat)->Prop
 | [],[]=>True
 | a :: l,b :: m=>(a.1=b.1∧a.2.1=b.2.1∧∀w v,Ψ a.2.2 w v->Φ b.2.2 w v)∧gf Ψ Φ l m
 | _,_=>False
theorem gf.ok {Φ Ψ:PH}{X:Nat->Prop}{w:World}{v:Value}:∀{l m:List (Nat×Nat×Nat)},gf Ψ Φ l m->(∀q,q ∈ l->∀w1,Off X w w1->Ψ q.2.2 w1 (bh q.1 q.2.1 v))->∀q,q ∈ m->∀w1,Off X w w1->Φ q.2.2 w1 (bh q.1 q.2.1 v)
 | [],[],_,_,q,hq,_,_=>by cases hq
 | a :: l,b :: m,h,ha,q,hq,w1,hw=>by
  rcases List.mem_cons.1 hq with rfl | hq
  ·have:=ha a (List.mem_cons_self ..) w1 hw
   rw [<- h.1.1,<- h.1.2.1]
   exact h.1.2.2 _ _ this
  ·exact gf.ok h.2 (fun q hq=>ha q (List.mem_cons_of_mem _ hq)) q hq w1 hw
def iT (Φ Ψ:PH) (p:Nat):List (Nat×Nat×Nat)->Prop
 | []=>True
 | q :: l=>(∀w v,Φ p w v->Ψ q.2.2 w (bh q.1 q.2.1 v))∧iT Φ Ψ p l
theorem iT.ok {Φ Ψ:PH}{p:Nat}:∀{l:List (Nat×Nat×Nat)},iT Φ Ψ p l->∀q,q ∈ l->∀w v,Φ p w v->Ψ q.2.2 w (bh q.1 q.2.1 v)
 | _ :: l,h,q,hq=>by
  rcases List.mem_cons.1 hq with rfl | hq
  ·exact h.1
  ·exact iT.ok h.2 q hq
def dE (Φ Ψ:PH):List Arg->List Arg->Prop
 | [],[]=>True
 | .fact p :: l,.fact q :: m=>(∀w v,Φ p w v->Ψ q w v)∧dE Φ Ψ l m
 | .lit a :: l,.lit b :: m=>a=b∧dE Φ Ψ l m
 | .lit a :: l,.fact q :: m=>(∀w,Ψ q w (a.ev bL))∧dE Φ Ψ l m
 | .any :: l,.any :: m=>dE Φ Ψ l m
 | .parts sh fs :: l,.parts sh' fs' :: m=>(sh=sh'∧gf Φ Ψ fs fs')∧dE Φ Ψ l m
 | .fact p :: l,.parts sh fs :: m=>((∀w v,Φ p w v->sh.is v)∧iT Φ Ψ p fs)∧dE Φ Ψ l m
 | _,_=>False
def iR (Ψ Φ:PH):List Out->List Out->Prop
 | [],[]=>True
 | a :: l,b :: m=>(a.sh=b.sh∧gf Ψ Φ a.fs b.fs)∧iR Ψ Φ l m
 | _,_=>False
theorem dE.ok {Φ Ψ:PH}{X:Nat->Prop}{w:World}:∀{l m:List Arg}{vs:List Value},dE Φ Ψ l m->bN Φ X w l vs->bN Ψ X w m vs
 | [],[],[],_,_=>trivial
 | .fact _ :: _,.fact _ :: _,_ :: _,h,ha=>⟨fun w1 hw=>h.1 _ _ (ha.1 w1 hw),dE.ok h.2 ha.2⟩
 | .lit _ :: _,.lit _ :: _,_ :: _,h,ha=>⟨h.1▸ha.1,dE.ok h.2 ha.2⟩
 | .any :: _,.any :: _,_ :: _,h,ha=>⟨trivial,dE.ok h ha.2⟩
 | .lit _ :: _,.fact _ :: _,_ :: _,h,ha=>⟨fun w1 _=>by rw [show _=_ from ha.1];exact h.1 w1,dE.ok h.2 ha.2⟩
 | .parts _ _ :: _,.parts _ _ :: _,_ :: _,h,ha=>⟨⟨h.1.1▸ha.1.1,gf.ok h.1.2 ha.1.2⟩,dE.ok h.2 ha.2⟩
 | .fact _ :: _,.parts _ _ :: _,_ :: _,h,ha=>⟨⟨h.1.1 _ _ (get ha.1),fun q hq w1 hw=>iT.ok h.1.2 q hq w1 _ (ha.1 w1 hw)⟩,dE.ok h.2 ha.2⟩
theorem iR.ok {Φ Ψ:PH}{X:Nat->Prop}{w:World}:∀{l m:List Out}{us:List Value},iR Ψ Φ l m->bk Ψ X w l us->bk Φ X w m us
 | [],[],[],_,_=>trivial
 | _ :: _,_ :: _,_ :: _,h,ha=>⟨⟨h.1.1▸ha.1.1,gf.ok h.1.2 ha.1.2⟩,iR.ok h.2 ha.2⟩
theorem aT {P:Program}{Φ Ψ:PH}{f:FuncId}{ar ke:List Arg}{outs kf:List Out}{aM:Bool} (h:aj Ψ P ⟨f,ke,kf,.call aM⟩) (ha:dE Φ Ψ ar ke) (ho:iR Ψ Φ kf outs):aj Φ P ⟨f,ar,outs,.call aM⟩:=
 fun X w vs hX h'=>(h X w vs hX (ha.ok h')).mono fun _ _w' ⟨hg,us,he,h2⟩=>⟨hg,us,he,ho.ok h2⟩
def oG (F:PH) (z:Nat->Int) (n0:Nat):List WP:=[Rw 2 F n0,Nz n0,Ni ((tl z n0:Nat):Int),Rw 2 F (tl z n0)]
def EK (F:PH) (z:Nat->Int) (n0:Nat) (j:Nat):List WP:=[Nz (n0-j),Nz (n0-(j+1)),Ptr 2 (F (n0-(j+1))),F (n0-(j+1)),Nw 0 0,Ni (cn (z (n0-(j+1))) (0:Int)),Nz (n0-(j+1))]
def ua:bf:=⟨[0,2,4,5],[(.slot 3,.i)],[(.one 0,4)],[.frm 1],4,[(4,2)]⟩
def ub:List Step:=[.derive (.agg [.cb false,.nl]) (.agg [.lit (.cb false),.lit (.nl)]) [] 8,
   bQ [.fact 4,.lit (.ci .i64 0)] oT (ai .gtr),
   bQ [.fact 4,.lit (.ci .i64 1)] [oN 5] (ai .sub),
   bQ [.fact 0,.fact 5] [oP 6] (aI 29),
   bQ [.fact 6] [oI 7] (aL 66),
   .base ⟨45,[.fact 7,.fact 8],[oN 9],false⟩,
   bQ [.fact 9,.lit (.ci .i64 0)] oT (ai .eql),
   bQ [.fact 4,.lit (.ci .i64 1)] [oN 10] (ai .sub)]
def EL:List Step:=[bQ [.fact 4,.lit (.ci .i64 0)] oF (ai .gtr)]
def EM:List Step:=[bQ [.fact 0] [oN 1] (aD 29),
   .loop ua [(ub,[.frm 10])] EL,
   bQ [.fact 0,.fact 2] [oS 3] (dq 29)]
def EN:List Out:=[oS 0]
theorem EO {F:PH}{z:Nat->Int}{n0 k:Nat} (hF:∀i w v,F i w v->aB w v (z i) k) (hK:∀i w w1 v,Kp w w1->F i w v->F i w1 v) (hn:n0<=1000000) (hk:k<=500000) (ht:tl z n0=0):aj (ph (oG F z n0)) Try.prog ⟨41,[.fact 0],[oS 3],false⟩:=by
 have hle:=bC z n0
 exact aR EN [oS 3] EM Try.func41 (by kernel_rfl)
  (lB (aG (F:=F) Try.underlying29 aa rfl)
   (bI (counted (n0-tl z n0) (fun j=>ph (oG F z n0 ++ EK F z n0 j)) (fun _=>0) (fun j p hp=>bJ (show p<(oG F z n0).length from hp)) ⟨aa,trivial⟩ (fun j hj=>by
   have h0:z (n0-(j+1))=0:=gR z n0 _ (by omega) (by omega)
   exact ⟨(ub,[.frm 10]),rfl,⟨aa,trivial⟩,(cA (om rfl)
   (lB (ed aa)
   (lB (Lc aa (by omega) rfl (by omega) (by omega))
   (lB (bc (i:=(n0-(j+1))) (F:=F) Try.underlying29 (by kernel_rfl) aa aa (by omega) rfl)
   (lB (cw (sz:=2) (F:=F (n0-(j+1))) (by kernel_rfl) (by kernel_rfl) aa (fun w w1 v g h=>hK (n0-(j+1)) w w1 v g h) (fun w v h=>aB.is (hF (n0-(j+1)) w v h)) rfl)
   (lB (lW (hF (n0-(j+1))) nI rfl (by omega) rfl)
   (lB (bi (op:=.eql) aa (aS (decide_eq_true (by rw [h0];rfl)) (by simp)))
   (lB (Lc aa (by omega) rfl (by omega) (by omega))
   aA))))))))⟩)
   (by
   have hle:=bC z n0
   exact (lB (dr aa)
   aA))
   (fun q hq w v h=>by
    simp only [ua,List.mem_cons,List.not_mem_nil,or_false] at hq
    rcases hq with rfl
    ·exact (fun h=>h.trans (congrArg (Value.int .i64) (by have:=bC z n0;omega))) h)) (lB (iF (m:=(tl z n0)) (n:=n0) (F:=F) Try.underlying29 (by kernel_rfl) aa aa (by first | omega | exact bC _ _) rfl)
   aA)))
  (aJ [.fact 0 (.one (.s))] ⟨Rw.Is 2 F n0,trivial⟩) bg
def oH (F:PH) (z:Nat->Int) (n0:Nat):List WP:=[Rw 2 F n0,Nz n0,Ni ((tl z n0:Nat):Int),Rw 2 F (tl z n0)]
def EP (F:PH) (z:Nat->Int) (n0:Nat) (j:Nat):List WP:=[Nz (n0-j),Nz (n0-(j+1)),Ptr 2 (F (n0-(j+1))),F (n0-(j+1)),Nw 0 0,Ni (cn (z (n0-(j+1))) (0:Int)),Nz (n0-(j+1)),Nz (tl z n0-1),Ptr 2 (F (tl z n0-1)),F (tl z n0-1),Nw 0 0,Ni (cn (z (tl z n0-1)) (0:Int))]
def uc:bf:=⟨[0,2,4,5],[(.slot 3,.i)],[(.one 0,4)],[.frm 1],4,[(4,2)]⟩
def ud:List Step:=[.derive (.agg [.cb false,.nl]) (.agg [.lit (.cb false),.lit (.nl)]) [] 8,
   bQ [.fact 4,.lit (.ci .i64 0)] oT (ai .gtr),
   bQ [.fact 4,.lit (.ci .i64 1)] [oN 5] (ai .sub),
   bQ [.fact 0,.fact 5] [oP 6] (aI 29),
   bQ [.fact 6] [oI 7] (aL 66),
   .base ⟨45,[.fact 7,.fact 8],[oN 9],false⟩,
   bQ [.fact 9,.lit (.ci .i64 0)] oT (ai .eql),
   bQ [.fact 4,.lit (.ci .i64 1)] [oN 10] (ai .sub)]
def EQ:List Step:=[.derive (.agg [.cb false,.nl]) (.agg [.lit (.cb false),.lit (.nl)]) [] 14,
   bQ [.fact 4,.lit (.ci .i64 0)] oT (ai .gtr),
   bQ [.fact 4,.lit (.ci .i64 1)] [oN 11] (ai .sub),
   bQ [.fact 0,.fact 11] [oP 12] (aI 29),
   bQ [.fact 12] [oI 13] (aL 66),
   .base ⟨45,[.fact 13,.fact 14],[oN 15],false⟩,
   bQ [.fact 15,.lit (.ci .i64 0)] oF (ai .eql)]
def ER:List Step:=[bQ [.fact 0] [oN 1] (aD 29),
   .loop uc [(ud,[.frm 10])] EQ,
   bQ [.fact 0,.fact 2] [oS 3] (dq 29)]
def ES:List Out:=[oS 0]
theorem ET {F:PH}{z:Nat->Int}{n0 k:Nat} (hF:∀i w v,F i w v->aB w v (z i) k) (hK:∀i w w1 v,Kp w w1->F i w v->F i w1 v) (hn:n0<=1000000) (hk:k<=500000) (ht:0<tl z n0):aj (ph (oH F z n0)) Try.prog ⟨41,[.fact 0],[oS 3],false⟩:=by
 have hle:=bC z n0
 exact aR ES [oS 3] ER Try.func41 (by kernel_rfl)
  (lB (aG (F:=F) Try.underlying29 aa rfl)
   (bI (counted (n0-tl z n0) (fun j=>ph (oH F z n0 ++ EP F z n0 j)) (fun _=>0) (fun j p hp=>bJ (show p<(oH F z n0).length from hp)) ⟨aa,trivial⟩ (fun j hj=>by
   have h0:z (n0-(j+1))=0:=gR z n0 _ (by omega) (by omega)
   exact ⟨(ud,[.frm 10]),rfl,⟨aa,trivial⟩,(cA (om rfl)
   (lB (ed aa)
   (lB (Lc aa (by omega) rfl (by omega) (by omega))
   (lB (bc (i:=(n0-(j+1))) (F:=F) Try.underlying29 (by kernel_rfl) aa aa (by omega) rfl)
   (lB (cw (sz:=2) (F:=F (n0-(j+1))) (by kernel_rfl) (by kernel_rfl) aa (fun w w1 v g h=>hK (n0-(j+1)) w w1 v g h) (fun w v h=>aB.is (hF (n0-(j+1)) w v h)) rfl)
   (lB (lW (hF (n0-(j+1))) nI rfl (by omega) rfl)
   (lB (bi (op:=.eql) aa (aS (decide_eq_true (by rw [h0];rfl)) (by simp)))
   (lB (Lc aa (by omega) rfl (by omega) (by omega))
   aA))))))))⟩)
   (by
   have hle:=bC z n0;have hl:=fC z n0 ht
   exact (cA (om rfl)
   (lB (ed aa)
   (lB (Lc aa (by omega) rfl (by omega) (by omega))
   (lB (bc (i:=(tl z n0-1)) (F:=F) Try.underlying29 (by kernel_rfl) aa aa (by omega) rfl)
   (lB (cw (sz:=2) (F:=F (tl z n0-1)) (by kernel_rfl) (by kernel_rfl) aa (fun w w1 v g h=>hK (tl z n0-1) w w1 v g h) (fun w v h=>aB.is (hF (tl z n0-1) w v h)) rfl)
   (lB (lW (hF (tl z n0-1)) nI rfl (by omega) rfl)
   (lB (bi (op:=.eql) aa (aS (decide_eq_false (fun h=>hl (EJ h))) (by simp)))
   aA))))))))
   (fun q hq w v h=>by
    simp only [uc,List.mem_cons,List.not_mem_nil,or_false] at hq
    rcases hq with rfl
    ·exact (fun h=>h.trans (congrArg (Value.int .i64) (by have:=bC z n0;omega))) h)) (lB (iF (m:=(tl z n0)) (n:=n0) (F:=F) Try.underlying29 (by kernel_rfl) aa aa (by first | omega | exact bC _ _) rfl)
   aA)))
  (aJ [.fact 0 (.one (.s))] ⟨Rw.Is 2 F n0,trivial⟩) bg
section
variable {Φ:PH}{p x n k:Nat}{z:Nat->Int}{F:PH}
theorem em (hp:∀w v,Φ p w v->Rw 2 F n w v) (hF:∀i w v,F i w v->aB w v (z i) k) (hK:∀i w w1 v,Kp w w1->F i w v->F i w1 v) (hx:Φ x=Rw 2 F (tl z n)) (hn:n<=1000000) (hk:k<=500000):aj Φ Try.prog ⟨41,[.fact p],[oS x],false⟩:=by
 rcases Nat.eq_zero_or_pos (tl z n) with h | h
 ·exact aT (EO hF hK hn hk h) ⟨hp,trivial⟩ ⟨⟨rfl,⟨rfl,rfl,fun _ _ h=>hx▸h⟩,trivial⟩,trivial⟩
 ·exact aT (ET hF hK hn hk h) ⟨hp,trivial⟩ ⟨⟨rfl,⟨rfl,rfl,fun _ _ h=>hx▸h⟩,trivial⟩,trivial⟩
end
def oJ (z:Nat->Int) (n:Nat):List WP:=[fun w v=>Rw 1 (fun i _ v=>v = .agg #[.int .i64 (z i)]) n w v,Nz n,aC 2 66 (Nf (upto 0 z) 2) n,Nz n,aC 2 66 (Nf (upto n z) 2) n,Rw 2 (Nf (upto n z) 2) (tl (upto n z) n)]
def EU (z:Nat->Int) (n:Nat) (j:Nat):List WP:=[Nz j,aC 2 66 (Nf (upto j z) 2) n,fun _ _=>True,fun w v=>Ptr 1 (fun _ v=>v = .agg #[.int .i64 (z j)]) w v,Ni (z j),Nw (z j) 2,At 2,Ptr 2 (Nw ((upto j z) j) 2),fun w v=>aC 2 66 (fun i w v=>au w v ((upto (j+1) z) i) 2) n w v,Nz (j+1)]
def ue:bf:=⟨[0,2,6,7,8,9,10],[(.slot 11,.i),(.slot 3,.s)],[(.one 0,6),(.one 1,.bT [1] 7),(.one 1,.lo 1)],[.closed (.one (.ci .i64 0)),.frm 2,.frm 0],6,[(7,4)]⟩
def uf:List Step:=[bQ [.fact 6,.fact 3] oT (ai .lss),
   bQ [.fact 0,.fact 6] [oP 9] (aI 58),
   bQ [.fact 9] [oN 10] (aL 3),
   .base ⟨51,[.fact 10],[oI 11],false⟩,
   .base ⟨0,[.fact 7,.fact 6],[oP 13],.joint [1] 12 (aI 29)⟩,
   .base ⟨0,[.fact 7,.fact 6,.any,.fact 11],[oS 14],.put [] 1 0 12 (dN 66 (.tmp 16) (.tmp 17))⟩,
   bQ [.fact 6,.lit (.ci .i64 1)] [oN 15] (ai .add)]
def EV:List Step:=[bQ [.fact 6,.fact 3] oF (ai .lss)]
def EW:List Step:=[bQ [.fact 0] [oN 1] (aD 58),
   .base ⟨0,[.fact 1,.fact 1],[oS 2],.loose [] 1 0 (dZ 29)⟩,
   bQ [.fact 0] [oN 3] (aD 58),
   .loop ue [(uf,[.frm 15,.frm 14,.frm 0])] EV,
   .base ⟨41,[.fact 4],[oS 5],.df [1] false⟩]
def EX:List Out:=[oS 0]
theorem pof {z:Nat->Int}{n:Nat} (hn:n<=1000000) (hz:∀i,-9223372036854775808<=z i∧z i<=9223372036854775807):aj (ph (oJ z n)) Try.prog ⟨27,[.fact 0],[oS 5],false⟩:=by
 skip
 exact aR EX [oS 5] EW Try.func27 (by kernel_rfl)
  (lB (aG (F:=(fun i _ v=>v = .agg #[.int .i64 (z i)])) Try.underlying58 aa rfl)
   (lB (iP (n:=n) (F:=(Nf (upto 0 z) 2)) aa (by omega) (fun i w=>au.zero w 2) rfl)
   (lB (aG (F:=(fun i _ v=>v = .agg #[.int .i64 (z i)])) Try.underlying58 aa rfl)
   (bI (counted n (fun j=>ph (oJ z n ++ EU z n j)) (fun _=>0) (fun j p hp=>bJ (show p<(oJ z n).length from hp)) ⟨fun _=>rfl,aa,aW,trivial⟩ (fun j hj=>by
   skip
   exact ⟨(uf,[.frm 15,.frm 14,.frm 0]),rfl,⟨aa,aa,aW,trivial⟩,(lB (bm aa aa)
   (lB (bc (i:=j) (F:=(fun i _ v=>v = .agg #[.int .i64 (z i)])) Try.underlying58 (by kernel_rfl) aa aa (by omega) rfl)
   (lB (ti (by kernel_rfl) aa rfl)
   (lB (EY aa rfl (by have:=hz j;omega) (by have:=hz j;omega) rfl)
   (lB (fh (i:=j) (sz:=2) (n:=n) (F:=(Nf (upto j z) 2)) Try.underlying29 (by kernel_rfl) (fun _ _ h=>aC.arr h) aa (by omega) rfl rfl)
   (lB (ge (i:=j) (n:=n) (F:=(fun i w v=>au w v ((upto j z) i) 2)) (F':=(fun i w v=>au w v ((upto (j+1) z) i) 2)) (G:=Nw (z j) 2) (.tmp 16) (.tmp 17) (by kernel_rfl) aa aa (by omega) aa rfl (fun _ _ h=>au.cells h) (fun _ _ _ _ g h=>au.kp h g) (fun _ _ _ g h=>au.kp h g) (fun i w v hi h=>by rw [LE hi];exact h) (fun w v h=>by rw [LG];exact h) rfl)
   (lB (bt aa (by omega) rfl (by omega) (by omega))
   aA)))))))⟩)
   (lB (tlF aa aa)
   aA)
   (fun q hq w v h=>by
    simp only [ue,List.mem_cons,List.not_mem_nil,or_false] at hq
    rcases hq with rfl
    ·exact (fun h=>h) h)) (lB (eA [1] (em (z:=(upto n z)) (n:=n) (k:=2) (F:=(Nf (upto n z) 2)) (fun _ _ h=>aC.rw h) (fun _ _ _ h=>au.i h) (fun _ _ _ _ g h=>au.kp h g) rfl (by omega) (by omega)))
   aA)))))
  (aJ [.fact 0 (.one (.s))] ⟨Rw.Is 1 (fun i _ v=>v = .agg #[.int .i64 (z i)]) n,trivial⟩) bg
def EZ (z:Nat->Int) (n k:Nat) (i:Nat):List WP:=[Rw 2 (If z k) n,Nz i,Nz n,Ptr 2 (Iw (z i) k),Iw (z i) k]
def Oj:List Step:=[bQ [.fact 0] [oN 2] (aD 29),
   bQ [.fact 1,.fact 2] oT (ai .lss),
   bQ [.fact 0,.fact 1] [oP 3] (aI 29),
   bQ [.fact 3] [oI 4] (aL 66)]
def Ok:List Out:=[oS 0,oN 1]
theorem Ol {z:Nat->Int}{n k:Nat}{i:Nat} (hi:i<n):aj (ph (EZ z n k i)) Try.prog ⟨68,[.fact 0,.fact 1],[oI 4],false⟩:=by
 skip
 exact aR Ok [oI 4] Oj Try.func68 (by kernel_rfl)
  (lB (aG (F:=(If z k)) Try.underlying29 aa rfl)
   (lB (bm aa aa)
   (lB (bc (i:=i) (F:=(If z k)) Try.underlying29 (by kernel_rfl) aa aa (by omega) rfl)
   (lB (cw (sz:=2) (F:=Iw (z i) k) (by kernel_rfl) (by kernel_rfl) aa (fun _ _ _ g h=>aB.kp h g) (fun _ _ h=>aB.is h) rfl)
   aA))))
  (aJ [.fact 0 (.one (.s)),.fact 1 (.one (.i))] ⟨Rw.Is 2 (If z k) n,fun _ _ h=>h▸aQ _,trivial⟩) (fun _ _ _ h=>h)
def Om (z:Nat->Int) (n k:Nat) (i:Nat):List WP:=[Rw 2 (If z k) n,Nz i,Nz n]
def On:List Step:=[bQ [.fact 0] [oN 2] (aD 29),
   bQ [.fact 1,.fact 2] oF (ai .lss)]
def Oo:List Out:=[oS 0,oN 1]
theorem Oq {z:Nat->Int}{n k:Nat}{i:Nat} (hi:n<=i):aj (ph (Om z n k i)) Try.prog ⟨68,[.fact 0,.fact 1],[⟨.agg [.lit (.cb false),.lit (.nl)],[]⟩],false⟩:=by
 skip
 exact aR Oo [⟨.agg [.lit (.cb false),.lit (.nl)],[]⟩] On Try.func68 (by kernel_rfl)
  (lB (aG (F:=(If z k)) Try.underlying29 aa rfl)
   (lB (tlF aa aa)
   aA))
  (aJ [.fact 0 (.one (.s)),.fact 1 (.one (.i))] ⟨Rw.Is 2 (If z k) n,fun _ _ h=>h▸aQ _,trivial⟩) (fun _ _ _ h=>h)
theorem ug {n i:Nat}{f:Nat->Int} (h:i<n):upto n f i=ae (ad (mk n f)) i:=by rw [fu,dt,el h,if_pos h]
theorem Ot (n:Nat) (f:Nat->Int):tl (upto n f) n=(ad (mk n f)).length:=by
 rw [iE];exact oe fun i hi=>el hi
theorem LH {n k:Nat}{f:Nat->Int}{w:World}{v:Value} (h:Rw 2 (Nf (upto n f) k) (tl (upto n f) n) w v):Rw 2 (Nf (ae (ad (mk n f))) k) (ad (mk n f)).length w v:=
 Rw.len (Rw.to h fun i w v hi h=>by show au w v _ k;rw [<- ug (Nat.lt_of_lt_of_le hi (bC _ _))];exact h) (Ot n f)
section
variable {Φ:PH}{p q x n k i:Nat}{z:Nat->Int}{t:Int}
theorem jE {zs:List Int} (hp:∀w v,Φ p w v->Rw 1 (fun i _ v=>v = .agg #[.int .i64 (z i)]) n w v) (hx:Φ x=Rw 2 (Nf (ae zs) 2) zs.length) (hn:n<=1000000) (hz:∀i,-9223372036854775808<=z i∧z i<=9223372036854775807) (hzs:ad (mk n z)=zs):aj Φ Try.prog ⟨27,[.fact p],[oS x],false⟩:=
 aT (pof hn hz) ⟨hp,trivial⟩ ⟨⟨rfl,⟨rfl,rfl,fun _ _ h=>hx▸hzs▸LH h⟩,trivial⟩,trivial⟩
theorem Fa {w:World}{us:List Value}{X:Nat->Prop} (hx:Φ x=Iw 0 k) (h:bk Φ X w [⟨.agg [.lit (.cb false),.lit .nl],[]⟩] us):bk Φ X w [⟨iS,[(0,0,x)]⟩] us:=by
 match us,h with
 | [u],h=>
  obtain ⟨⟨⟨vs,rfl,h2⟩,_⟩,_⟩:=h
  match vs,h2 with
  | [v0,v1],h2=>
   obtain ⟨e0,e1,_⟩:=h2
   have oo:v0 = .bool false:=e0
   have e1':v1 = .slice none 0 0:=e1
   subst oo;subst e1'
   exact cm kg hx fun w1 _=>(au.zero w1 k).i
theorem lS (hp:∀w v,Φ p w v->Rw 2 (If z k) n w v) (hq:∀w v,Φ q w v->v = .int .i64 (i:Int)) (hx:Φ x=Iw t k) (_hn:n<=1000000) (h1:i<n->z i=t) (h2:n<=i->t=0):aj Φ Try.prog ⟨68,[.fact p,.fact q],[⟨iS,[(0,0,x)]⟩],false⟩:=by
 rcases Nat.lt_or_ge i n with h | h
 ·exact aT (Ol (z:=z) (k:=k) (n:=n) h) ⟨hp,hq,trivial⟩ ⟨⟨rfl,⟨rfl,rfl,fun _ _ h'=>hx▸h1 h▸h'⟩,trivial⟩,trivial⟩
 ·intro X w vs hX ha
  have ht:=h2 h
  subst ht
  refine (aT (outs:=[⟨.agg [.lit (.cb false),.lit .nl],[]⟩]) (Φ:=Φ) (ar:=[.fact p,.fact q]) (Oq (z:=z) (k:=k) (n:=n) h) ⟨hp,hq,trivial⟩ ⟨⟨rfl,trivial⟩,trivial⟩ X w vs hX ha).mono fun e w' ⟨hg,us,he,h2⟩=>⟨hg,us,he,Fa hx h2⟩
end
def KI (w:World) (v:Value) (b:Bool) (xs:List Nat) (z:Int) (k:Nat):Prop:=KR w v b xs∧aB w v z k
theorem KI.kp {w w':World}{v:Value}{b:Bool}{xs:List Nat}{z:Int}{k:Nat} (h:KI w v b xs z k) (g:Kp w w'):KI w' v b xs z k:=⟨h.1.kp g,h.2.kp g⟩
theorem KI.dX {b:Bool}{xs:List Nat}{z:Int}{k:Nat}{w:World}{l:List Value} (h:KI w (.agg l.toArray) b xs z k):∀u,u ∈ l->u.oneCell'=true∧KT u:=aB.dX h.2
theorem am.fst' {q:Rat}{k:Nat}{w:World}{l:List Value} (h:am w (.agg l.toArray) q k):af w (.agg ((l.drop 0).take 2).toArray) q.num k:=by
 have:=am.fst h
 simpa [bh,cellsOf,Value.cells] using this
theorem am.snd' {q:Rat}{k:Nat}{w:World}{l:List Value} (h:am w (.agg l.toArray) q k):af w (.agg ((l.drop 2).take 2).toArray) (q.den:Int) k:=by
 have:=am.snd h
 simpa [bh,cellsOf,Value.cells] using this
theorem uh (z:Int):aN z 1=((z:Int):Rat):=by
 rw [Fb,<- Rat.mk_den_one,Rat.mk_eq_divInt];rfl
theorem Fc (z:Int):cn (((z:Int):Rat).den:Int) 1=0:=by
 show cn 1 1=0
 decide
section
variable {Φ:PH}{p q x x1 x2 i j:Nat}
theorem ui (k:Nat){z:Int}{b:Bool}{xs:List Nat} (hp:∀w v,Φ p w v->KR w v b xs) (hq:∀w v,Φ q w v->v = .int .i64 (k:Int)) (hx:Φ x=fun w v=>KI w v b (xs.take k) z k) (hz:sg b (Proofs.Ytomamliepbhegaa.val 4294967296 (xs.take k))=z):aj Φ Try.prog ⟨38,[.fact p,.fact q],[⟨iS,[(0,0,x)]⟩],false⟩:=fun X w vs hX ha=>by
 match vs,ha with
 | [v,u],ha=>
  refine ((Fd (Φ:=ph [fun w v=>KR w v b xs,Ni (k:Int),fun w v=>KR w v b (xs.take k),Iw z k]) (p:=0) (q:=1) (x:=2) (x':=3) k aa aa rfl rfl hz) X w [v,u] hX ⟨fun w1 hw=>hp _ _ (ha.1 w1 hw),fun w1 hw=>hq _ _ (ha.2.1 w1 hw),trivial⟩).mono fun e w' ⟨hg,us,he,ho⟩=>⟨hg,us,he,?_⟩
  match us,ho with
  | [u],ho=>
   exact cm ho.1.1 hx fun w1 hw=>⟨ho.1.2 (0,0,2) (List.mem_cons_self ..) w1 hw,ho.1.2 (0,0,3) (List.mem_cons_of_mem _ (List.mem_cons_self ..)) w1 hw⟩
theorem Ff {z y:Int}{t:Rat} (hp:∀w v,Φ p w v->v = .int .i64 z) (hx:Φ x=Dw t 6) (hx1:Φ x1=fun w v=>af w v t.num 6) (hx2:Φ x2=fun w v=>af w v (t.den:Int) 6) (z1 : -9223372036854775808<=z) (z2:z<=9223372036854775807) (y1 : -9223372036854775808<=y) (y2:y<=9223372036854775807) (ht:aN z y=t):aj Φ Try.prog ⟨52,[.fact p,.lit (.ci .i64 y)],[⟨sS,[(0,0,x),(0,2,x1),(2,2,x2)]⟩],false⟩:=
 Ld fun _ w v u h0 h1=>by
  obtain rfl:=hp _ _ (get h0)
  obtain rfl:u = .int .i64 y:=h1
  exact (uj z y z1 z2 y1 y2 ht).mono fun _ _ h=>kh hx hx1 hx2 h
theorem Fg {z y r:Int} (hp:∀w v,Φ p w v->af w v z i) (hq:∀w v,Φ q w v->af w v y j) (hi:i+j<=1000000) (hr:cn z y=r):aj Φ Try.prog ⟨30,[.fact p,.fact q],[oL (.ci .i64 r)],false⟩:=
 Ld fun _ _ _ _ h0 h1=>(Fh r (hp _ _ (get h0)) (hq _ _ (get h1)) hi hr).mono fun _ _ h=>Fi h
end
def oM (a:Nat->Bool) (xs:Nat->List Nat) (ez:Nat->Int) (n0 K m N:Nat):List WP:=[fun w v=>Rw 2 (fun ι w v=>KR w v (a ι) (xs ι)) n0 w v,Nz K,Nz m,fun w v=>aC 2 66 (fun ι w v=>KI w v (a ι) ((fun ι=>(xs ι).take m) ι) (ez ι) m) N w v]
def Fj (a:Nat->Bool) (xs:Nat->List Nat) (ez:Nat->Int) (n0 m:Nat) (j:Nat):List WP:=[Nz j,fun w v=>aC 2 66 (fun ι w v=>KI w v (a ι) ((fun ι=>(xs ι).take m) ι) (ez ι) m) j w v,fun _ _=>True,Nz n0,fun w v=>Ptr 2 (fun w v=>KR w v (a j) (xs j)) w v,fun w v=>KR w v (a j) (xs j),fun w v=>KI w v (a j) ((xs j).take m) (ez j) m,fun w v=>aC 2 66 (fun ι w v=>KI w v (a ι) ((fun ι=>(xs ι).take m) ι) (ez ι) m) (j+1) w v,Nz (j+1),Nz n0]
def uk:bf:=⟨[0,1,2,6],[(.slot 8,.i),(.slot 7,.s)],[(.one 0,4),(.one 1,.bT [1] 5),(.one 1,.lo 1)],[.closed (.one (.ci .i64 0)),.closed (.one (.nl)),.frm 0],4,[(5,3)]⟩
def ul:List Step:=[bQ [.fact 0] [oN 7] (aD 29),
   bQ [.fact 4,.fact 7] oT (ai .lss),
   bQ [.fact 4,.fact 1] oT (ai .lss),
   bQ [.fact 0,.fact 4] [oP 8] (aI 29),
   bQ [.fact 8] [oI 9] (aL 66),
   .base ⟨38,[.fact 9,.fact 2],[oI 10],false⟩,
   .base ⟨0,[.fact 5,.row 2 [10]],[oS 11],.loose [] 1 0 (cf 29 29)⟩,
   bQ [.fact 4,.lit (.ci .i64 1)] [oN 12] (ai .add)]
def Fk:List Step:=[bQ [.fact 0] [oN 13] (aD 29),
   bQ [.fact 4,.fact 13] oF (ai .lss)]
def Fl:List Step:=[.loop uk [(ul,[.frm 12,.frm 11,.frm 0])] Fk]
def Fm:List Out:=[oS 0,oN 1,oN 2]
theorem Fn {a:Nat->Bool}{xs:Nat->List Nat}{ez:Nat->Int}{n0 K m N:Nat} (hn:n0<=9223372036854775807) (hKm:K<=1000000) (hz:∀j,sg (a j) (Proofs.Ytomamliepbhegaa.val 4294967296 ((xs j).take m))=ez j) (hN:N=n0) (hK:N<=K):aj (ph (oM a xs ez n0 K m N)) Try.prog ⟨17,[.fact 0,.fact 1,.fact 2],[oS 3],false⟩:=by
 skip
 exact aR Fm [oS 3] Fl Try.func17 (by kernel_rfl)
  (bI (counted N (fun j=>ph (oM a xs ez n0 K m N ++ Fj a xs ez n0 m j)) (fun _=>0) (fun j p hp=>bJ (show p<(oM a xs ez n0 K m N).length from hp)) ⟨fun _=>rfl,fun w=>aC.nil 2 66 (fun ι w v=>KI w v (a ι) ((fun ι=>(xs ι).take m) ι) (ez ι) m) w,aW,trivial⟩ (fun j hj=>by
   skip
   exact ⟨(ul,[.frm 12,.frm 11,.frm 0]),rfl,⟨aa,aa,aW,trivial⟩,(lB (aG (F:=(fun ι w v=>KR w v (a ι) (xs ι))) Try.underlying29 aa rfl)
   (lB (bm aa aa)
   (lB (bm aa aa)
   (lB (bc (i:=j) (F:=(fun ι w v=>KR w v (a ι) (xs ι))) Try.underlying29 (by kernel_rfl) aa aa (by omega) rfl)
   (lB (cw (sz:=2) (F:=fun w v=>KR w v (a j) (xs j)) (by kernel_rfl) (by kernel_rfl) aa (fun _ _ _ g h=>KR.kp h g) (fun _ _ h=>KR.is h) rfl)
   (lB (ui m aa aa rfl (hz j))
   (lB (tt (n:=j) (F:=(fun ι w v=>KI w v (a ι) ((fun ι=>(xs ι).take m) ι) (ez ι) m)) (fun _ _ _ _ g h=>KI.kp h g) aa aa (fun _ _ h=>KI.dX h) (by omega) rfl)
   (lB (bt aa (by omega) rfl (by omega) (by omega))
   aA))))))))⟩)
   (lB (aG (F:=(fun ι w v=>KR w v (a ι) (xs ι))) Try.underlying29 aa rfl)
   (lB (tlF aa aa)
   aA))
   (fun q hq w v h=>by
    simp only [uk,List.mem_cons,List.not_mem_nil,or_false] at hq
    rcases hq with rfl
    ·exact (fun h=>h) h)) aA)
  (aJ [.fact 0 (.one (.s)),.fact 1 (.one (.i)),.fact 2 (.one (.i))] ⟨Rw.Is 2 (fun ι w v=>KR w v (a ι) (xs ι)) n0,fun _ _ h=>h▸aQ _,fun _ _ h=>h▸aQ _,trivial⟩) (fun _ _ _ h=>h)
def oO (a:Nat->Bool) (xs:Nat->List Nat) (ez:Nat->Int) (n0 K m N:Nat):List WP:=[fun w v=>Rw 2 (fun ι w v=>KR w v (a ι) (xs ι)) n0 w v,Nz K,Nz m,fun w v=>aC 2 66 (fun ι w v=>KI w v (a ι) ((fun ι=>(xs ι).take m) ι) (ez ι) m) N w v]
def Fo (a:Nat->Bool) (xs:Nat->List Nat) (ez:Nat->Int) (n0 m:Nat) (j:Nat):List WP:=[Nz j,fun w v=>aC 2 66 (fun ι w v=>KI w v (a ι) ((fun ι=>(xs ι).take m) ι) (ez ι) m) j w v,fun _ _=>True,Nz n0,fun w v=>Ptr 2 (fun w v=>KR w v (a j) (xs j)) w v,fun w v=>KR w v (a j) (xs j),fun w v=>KI w v (a j) ((xs j).take m) (ez j) m,fun w v=>aC 2 66 (fun ι w v=>KI w v (a ι) ((fun ι=>(xs ι).take m) ι) (ez ι) m) (j+1) w v,Nz (j+1),Nz n0]
def um:bf:=⟨[0,1,2,6],[(.slot 8,.i),(.slot 7,.s)],[(.one 0,4),(.one 1,.bT [1] 5),(.one 1,.lo 1)],[.closed (.one (.ci .i64 0)),.closed (.one (.nl)),.frm 0],4,[(5,3)]⟩
def uo:List Step:=[bQ [.fact 0] [oN 7] (aD 29),
   bQ [.fact 4,.fact 7] oT (ai .lss),
   bQ [.fact 4,.fact 1] oT (ai .lss),
   bQ [.fact 0,.fact 4] [oP 8] (aI 29),
   bQ [.fact 8] [oI 9] (aL 66),
   .base ⟨38,[.fact 9,.fact 2],[oI 10],false⟩,
   .base ⟨0,[.fact 5,.row 2 [10]],[oS 11],.loose [] 1 0 (cf 29 29)⟩,
   bQ [.fact 4,.lit (.ci .i64 1)] [oN 12] (ai .add)]
def Fp:List Step:=[bQ [.fact 0] [oN 13] (aD 29),
   bQ [.fact 4,.fact 13] oT (ai .lss),
   bQ [.fact 4,.fact 1] oF (ai .lss)]
def Fq:List Step:=[.loop um [(uo,[.frm 12,.frm 11,.frm 0])] Fp]
def Fr:List Out:=[oS 0,oN 1,oN 2]
theorem Fs {a:Nat->Bool}{xs:Nat->List Nat}{ez:Nat->Int}{n0 K m N:Nat} (_hn:n0<=9223372036854775807) (hKm:K<=1000000) (hz:∀j,sg (a j) (Proofs.Ytomamliepbhegaa.val 4294967296 ((xs j).take m))=ez j) (hN:N=K) (hK:K<n0):aj (ph (oO a xs ez n0 K m N)) Try.prog ⟨17,[.fact 0,.fact 1,.fact 2],[oS 3],false⟩:=by
 skip
 exact aR Fr [oS 3] Fq Try.func17 (by kernel_rfl)
  (bI (counted N (fun j=>ph (oO a xs ez n0 K m N ++ Fo a xs ez n0 m j)) (fun _=>0) (fun j p hp=>bJ (show p<(oO a xs ez n0 K m N).length from hp)) ⟨fun _=>rfl,fun w=>aC.nil 2 66 (fun ι w v=>KI w v (a ι) ((fun ι=>(xs ι).take m) ι) (ez ι) m) w,aW,trivial⟩ (fun j hj=>by
   skip
   exact ⟨(uo,[.frm 12,.frm 11,.frm 0]),rfl,⟨aa,aa,aW,trivial⟩,(lB (aG (F:=(fun ι w v=>KR w v (a ι) (xs ι))) Try.underlying29 aa rfl)
   (lB (bm aa aa)
   (lB (bm aa aa)
   (lB (bc (i:=j) (F:=(fun ι w v=>KR w v (a ι) (xs ι))) Try.underlying29 (by kernel_rfl) aa aa (by omega) rfl)
   (lB (cw (sz:=2) (F:=fun w v=>KR w v (a j) (xs j)) (by kernel_rfl) (by kernel_rfl) aa (fun _ _ _ g h=>KR.kp h g) (fun _ _ h=>KR.is h) rfl)
   (lB (ui m aa aa rfl (hz j))
   (lB (tt (n:=j) (F:=(fun ι w v=>KI w v (a ι) ((fun ι=>(xs ι).take m) ι) (ez ι) m)) (fun _ _ _ _ g h=>KI.kp h g) aa aa (fun _ _ h=>KI.dX h) (by omega) rfl)
   (lB (bt aa (by omega) rfl (by omega) (by omega))
   aA))))))))⟩)
   (lB (aG (F:=(fun ι w v=>KR w v (a ι) (xs ι))) Try.underlying29 aa rfl)
   (lB (bm aa aa)
   (lB (tlF aa aa)
   aA)))
   (fun q hq w v h=>by
    simp only [um,List.mem_cons,List.not_mem_nil,or_false] at hq
    rcases hq with rfl
    ·exact (fun h=>h) h)) aA)
  (aJ [.fact 0 (.one (.s)),.fact 1 (.one (.i)),.fact 2 (.one (.i))] ⟨Rw.Is 2 (fun ι w v=>KR w v (a ι) (xs ι)) n0,fun _ _ h=>h▸aQ _,fun _ _ h=>h▸aQ _,trivial⟩) (fun _ _ _ h=>h)
def oU (q:Nat->Rat) (n0 k:Nat):List WP:=[Rw 4 (Df q k) n0,Nz n0,Nz (tl (fun ι=>(q ι).num) n0),Rw 4 (Df q k) (tl (fun ι=>(q ι).num) n0)]
def Ft (q:Nat->Rat) (n0 k:Nat) (j:Nat):List WP:=[Nz (n0-j),Nz (n0-(j+1)),Ptr 4 (Dw (q (n0-(j+1))) k),fun w v=>Ptr 2 (fun w v=>af w v ((q (n0-(j+1))).num) k) w v,fun w v=>af w v ((q (n0-(j+1))).num) k,Nz (n0-(j+1))]
def up:bf:=⟨[0,2,4,5],[(.slot 3,.i)],[(.one 0,4)],[.frm 1],4,[(4,2)]⟩
def uq:List Step:=[bQ [.fact 4,.lit (.ci .i64 0)] oT (ai .gtr),
   bQ [.fact 4,.lit (.ci .i64 1)] [oN 5] (ai .sub),
   bQ [.fact 0,.fact 5] [oP 6] (aI 36),
   bQ [.fact 6] [oP 7] (gT 63 0),
   bQ [.fact 7] [oD 8] (aL 61),
   .base ⟨74,[.fact 8],oT,false⟩,
   bQ [.fact 4,.lit (.ci .i64 1)] [oN 9] (ai .sub)]
def Fu:List Step:=[bQ [.fact 4,.lit (.ci .i64 0)] oF (ai .gtr)]
def Fv:List Step:=[bQ [.fact 0] [oN 1] (aD 36),
   .loop up [(uq,[.frm 9])] Fu,
   bQ [.fact 0,.fact 2] [oS 3] (dq 36)]
def Fw:List Out:=[oS 0]
theorem Fx {q:Nat->Rat}{n0 k:Nat} (hn:n0<=1000000) (_hk:k<=500000) (ht:(tl (fun ι=>(q ι).num) n0)=0):aj (ph (oU q n0 k)) Try.prog ⟨49,[.fact 0],[oS 3],false⟩:=by
 have hle:=bC (fun ι=>(q ι).num) n0
 exact aR Fw [oS 3] Fv Try.func49 (by kernel_rfl)
  (lB (aG (F:=(Df q k)) Try.underlying36 aa rfl)
   (bI (counted (n0-(tl (fun ι=>(q ι).num) n0)) (fun j=>ph (oU q n0 k ++ Ft q n0 k j)) (fun _=>0) (fun j p hp=>bJ (show p<(oU q n0 k).length from hp)) ⟨aa,trivial⟩ (fun j hj=>by
   have h0:(q (n0-(j+1))).num=0:=gR (fun ι=>(q ι).num) n0 _ (by omega) (by omega)
   exact ⟨(uq,[.frm 9]),rfl,⟨aa,trivial⟩,(lB (ed aa)
   (lB (Lc aa (by omega) rfl (by omega) (by omega))
   (lB (bc (i:=(n0-(j+1))) (F:=(Df q k)) Try.underlying36 (by kernel_rfl) aa aa (by omega) rfl)
   (lB (LB (off:=0) (len:=2) (sz:=4) (F:=Dw (q (n0-(j+1))) k) (G:=fun w v=>af w v ((q (n0-(j+1))).num) k) (by kernel_rfl) aa (by omega) (fun _ _ h=>am.fst' h) rfl)
   (lB (cw (sz:=2) (F:=fun w v=>af w v ((q (n0-(j+1))).num) k) (by kernel_rfl) (by kernel_rfl) aa (fun _ _ _ g h=>af.kp h g) (fun _ _ h=>af.is h) rfl)
   (lB (fj dD (decide_eq_true h0))
   (lB (Lc aa (by omega) rfl (by omega) (by omega))
   aA)))))))⟩)
   (by
   have hle:=bC (fun ι=>(q ι).num) n0
   exact (lB (dr aa)
   aA))
   (fun q hq w v h=>by
    simp only [up,List.mem_cons,List.not_mem_nil,or_false] at hq
    rcases hq with rfl
    ·exact (fun h=>h.trans (congrArg (Value.int .i64) (by have:=bC (fun ι=>(q ι).num) n0;omega))) h)) (lB (iF (m:=(tl (fun ι=>(q ι).num) n0)) (n:=n0) (F:=(Df q k)) Try.underlying36 (by kernel_rfl) aa aa (by first | omega | exact bC _ _) rfl)
   aA)))
  (aJ [.fact 0 (.one (.s))] ⟨Rw.Is 4 (Df q k) n0,trivial⟩) bg
def oV (q:Nat->Rat) (n0 k:Nat):List WP:=[Rw 4 (Df q k) n0,Nz n0,Nz (tl (fun ι=>(q ι).num) n0),Rw 4 (Df q k) (tl (fun ι=>(q ι).num) n0)]
def Fy (q:Nat->Rat) (n0 k:Nat) (j:Nat):List WP:=[Nz (n0-j),Nz (n0-(j+1)),Ptr 4 (Dw (q (n0-(j+1))) k),fun w v=>Ptr 2 (fun w v=>af w v ((q (n0-(j+1))).num) k) w v,fun w v=>af w v ((q (n0-(j+1))).num) k,Nz (n0-(j+1)),Ni ((((tl (fun ι=>(q ι).num) n0)-1):Nat):Int),Ptr 4 (Dw (q ((tl (fun ι=>(q ι).num) n0)-1)) k),fun w v=>Ptr 2 (fun w v=>af w v ((q ((tl (fun ι=>(q ι).num) n0)-1)).num) k) w v,fun w v=>af w v ((q ((tl (fun ι=>(q ι).num) n0)-1)).num) k]
def ur:bf:=⟨[0,2,4,5],[(.slot 3,.i)],[(.one 0,4)],[.frm 1],4,[(4,2)]⟩
def ut:List Step:=[bQ [.fact 4,.lit (.ci .i64 0)] oT (ai .gtr),
   bQ [.fact 4,.lit (.ci .i64 1)] [oN 5] (ai .sub),
   bQ [.fact 0,.fact 5] [oP 6] (aI 36),
   bQ [.fact 6] [oP 7] (gT 63 0),
   bQ [.fact 7] [oD 8] (aL 61),
   .base ⟨74,[.fact 8],oT,false⟩,
   bQ [.fact 4,.lit (.ci .i64 1)] [oN 9] (ai .sub)]
def Fz:List Step:=[bQ [.fact 4,.lit (.ci .i64 0)] oT (ai .gtr),
   bQ [.fact 4,.lit (.ci .i64 1)] [oN 10] (ai .sub),
   bQ [.fact 0,.fact 10] [oP 11] (aI 36),
   bQ [.fact 11] [oP 12] (gT 63 0),
   bQ [.fact 12] [oD 13] (aL 61),
   .base ⟨74,[.fact 13],oF,false⟩]
def FA:List Step:=[bQ [.fact 0] [oN 1] (aD 36),
   .loop ur [(ut,[.frm 9])] Fz,
   bQ [.fact 0,.fact 2] [oS 3] (dq 36)]
def FC:List Out:=[oS 0]
theorem FD {q:Nat->Rat}{n0 k:Nat} (hn:n0<=1000000) (_hk:k<=500000) (ht:0<(tl (fun ι=>(q ι).num) n0)):aj (ph (oV q n0 k)) Try.prog ⟨49,[.fact 0],[oS 3],false⟩:=by
 have hle:=bC (fun ι=>(q ι).num) n0
 exact aR FC [oS 3] FA Try.func49 (by kernel_rfl)
  (lB (aG (F:=(Df q k)) Try.underlying36 aa rfl)
   (bI (counted (n0-(tl (fun ι=>(q ι).num) n0)) (fun j=>ph (oV q n0 k ++ Fy q n0 k j)) (fun _=>0) (fun j p hp=>bJ (show p<(oV q n0 k).length from hp)) ⟨aa,trivial⟩ (fun j hj=>by
   have h0:(q (n0-(j+1))).num=0:=gR (fun ι=>(q ι).num) n0 _ (by omega) (by omega)
   exact ⟨(ut,[.frm 9]),rfl,⟨aa,trivial⟩,(lB (ed aa)
   (lB (Lc aa (by omega) rfl (by omega) (by omega))
   (lB (bc (i:=(n0-(j+1))) (F:=(Df q k)) Try.underlying36 (by kernel_rfl) aa aa (by omega) rfl)
   (lB (LB (off:=0) (len:=2) (sz:=4) (F:=Dw (q (n0-(j+1))) k) (G:=fun w v=>af w v ((q (n0-(j+1))).num) k) (by kernel_rfl) aa (by omega) (fun _ _ h=>am.fst' h) rfl)
   (lB (cw (sz:=2) (F:=fun w v=>af w v ((q (n0-(j+1))).num) k) (by kernel_rfl) (by kernel_rfl) aa (fun _ _ _ g h=>af.kp h g) (fun _ _ h=>af.is h) rfl)
   (lB (fj dD (decide_eq_true h0))
   (lB (Lc aa (by omega) rfl (by omega) (by omega))
   aA)))))))⟩)
   (by
   have hle:=bC (fun ι=>(q ι).num) n0;have hl:=fC (fun ι=>(q ι).num) n0 ht
   exact (lB (ed aa)
   (lB (Lc aa (by omega) rfl (by omega) (by omega))
   (lB (bc (i:=((tl (fun ι=>(q ι).num) n0)-1)) (F:=(Df q k)) Try.underlying36 (by kernel_rfl) aa aa (by omega) rfl)
   (lB (LB (off:=0) (len:=2) (sz:=4) (F:=Dw (q ((tl (fun ι=>(q ι).num) n0)-1)) k) (G:=fun w v=>af w v ((q ((tl (fun ι=>(q ι).num) n0)-1)).num) k) (by kernel_rfl) aa (by omega) (fun _ _ h=>am.fst' h) rfl)
   (lB (cw (sz:=2) (F:=fun w v=>af w v ((q ((tl (fun ι=>(q ι).num) n0)-1)).num) k) (by kernel_rfl) (by kernel_rfl) aa (fun _ _ _ g h=>af.kp h g) (fun _ _ h=>af.is h) rfl)
   (lB (fj dD (decide_eq_false hl))
   aA)))))))
   (fun q hq w v h=>by
    simp only [ur,List.mem_cons,List.not_mem_nil,or_false] at hq
    rcases hq with rfl
    ·exact (fun h=>h.trans (congrArg (Value.int .i64) (by have:=bC (fun ι=>(q ι).num) n0;omega))) h)) (lB (iF (m:=(tl (fun ι=>(q ι).num) n0)) (n:=n0) (F:=(Df q k)) Try.underlying36 (by kernel_rfl) aa aa (by first | omega | exact bC _ _) rfl)
   aA)))
  (aJ [.fact 0 (.one (.s))] ⟨Rw.Is 4 (Df q k) n0,trivial⟩) bg
section
variable {Φ:PH}{p x n k:Nat}{q:Nat->Rat}
theorem jw (hp:∀w v,Φ p w v->Rw 4 (Df q k) n w v) (hx:Φ x=Rw 4 (Df q k) (tl (fun i=>(q i).num) n)) (hn:n<=1000000) (hk:k<=500000):aj Φ Try.prog ⟨49,[.fact p],[oS x],false⟩:=by
 rcases Nat.eq_zero_or_pos (tl (fun i=>(q i).num) n) with h | h
 ·exact aT (Fx hn hk h) ⟨hp,trivial⟩ ⟨⟨rfl,⟨rfl,rfl,fun _ _ h=>hx▸h⟩,trivial⟩,trivial⟩
 ·exact aT (FD hn hk h) ⟨hp,trivial⟩ ⟨⟨rfl,⟨rfl,rfl,fun _ _ h=>hx▸h⟩,trivial⟩,trivial⟩
end
def oW (z:Nat->Int) (n k:Nat):List WP:=[Rw 2 (If z k) n,Nz n,fun w v=>aC 4 63 (fun ι w v=>am w v (((z ι:Int):Rat)) (k+2+2)) n w v,fun w v=>Rw 4 (fun ι w v=>am w v (((z ι:Int):Rat)) (k+2+2)) (tl (fun ι=>(((z ι:Int):Rat)).num) n) w v]
def FF (z:Nat->Int) (k:Nat) (j:Nat):List WP:=[Nz j,fun w v=>aC 4 63 (fun ι w v=>am w v (((z ι:Int):Rat)) (k+2+2)) j w v,fun _ _=>True,Ptr 2 (Iw (z j) k),Iw (z j) k,fun w v=>af w v (z j) k,fun w v=>af w v (1:Int) 2,Dw (aN (z j) (1:Int)) (k+2+2),fun w v=>af w v ((aN (z j) (1:Int)).num) (k+2+2),fun w v=>af w v ((aN (z j) (1:Int)).den:Int) (k+2+2),fun w v=>aC 4 63 (fun ι w v=>am w v (((z ι:Int):Rat)) (k+2+2)) (j+1) w v,Nz (j+1)]
def uu:bf:=⟨[0,2,5,6],[(.slot 7,.i),(.slot 3,.s)],[(.one 0,4),(.one 1,.bT [1] 5),(.one 1,.lo 1)],[.closed (.one (.ci .i64 0)),.closed (.one (.nl)),.frm 0],4,[(5,2)]⟩
def uv:List Step:=[bQ [.fact 4,.fact 1] oT (ai .lss),
   bQ [.fact 0,.fact 4] [oP 7] (aI 29),
   bQ [.fact 7] [oI 8] (aL 66),
   .base ⟨48,[.fact 8],[oD 9],false⟩,
   .base ⟨31,[.lit (.ci .i64 1)],[oD 10],false⟩,
   .base ⟨47,[.fact 9,.fact 10],[⟨.agg [.s,.b,.s,.b],[(0,0,11),(0,2,12),(2,2,13)]⟩],false⟩,
   .base ⟨0,[.fact 5,.row 4 [11]],[oS 14],.loose [] 1 0 (cf 36 36)⟩,
   bQ [.fact 4,.lit (.ci .i64 1)] [oN 15] (ai .add)]
def FG:List Step:=[bQ [.fact 4,.fact 1] oF (ai .lss)]
def FH:List Step:=[bQ [.fact 0] [oN 1] (aD 29),
   .loop uu [(uv,[.frm 15,.frm 14,.frm 0])] FG,
   .base ⟨49,[.fact 2],[oS 3],.df [1] false⟩]
def FI:List Out:=[oS 0]
theorem FJ {z:Nat->Int}{n k:Nat} (hn:n<=1000000) (hk:k<=50000):aj (ph (oW z n k)) Try.prog ⟨23,[.fact 0],[oS 3],false⟩:=by
 skip
 exact aR FI [oS 3] FH Try.func23 (by kernel_rfl)
  (lB (aG (F:=(If z k)) Try.underlying29 aa rfl)
   (bI (counted n (fun j=>ph (oW z n k ++ FF z k j)) (fun _=>0) (fun j p hp=>bJ (show p<(oW z n k).length from hp)) ⟨fun _=>rfl,fun w=>aC.nil 4 63 (fun ι w v=>am w v (((z ι:Int):Rat)) (k+2+2)) w,aW,trivial⟩ (fun j hj=>by
   skip
   exact ⟨(uv,[.frm 15,.frm 14,.frm 0]),rfl,⟨aa,aa,aW,trivial⟩,(lB (bm aa aa)
   (lB (bc (i:=j) (F:=(If z k)) Try.underlying29 (by kernel_rfl) aa aa (by omega) rfl)
   (lB (cw (sz:=2) (F:=Iw (z j) k) (by kernel_rfl) (by kernel_rfl) aa (fun _ _ _ g h=>aB.kp h g) (fun _ _ h=>aB.is h) rfl)
   (lB (FK iI rfl (by omega) rfl)
   (lB (uw (z:=1) rfl (by decide) (by decide) rfl)
   (lB (lZ dD dD rfl rfl rfl (by omega) rfl)
   (lB (kZ (n:=j) (F:=(fun ι w v=>am w v (((z ι:Int):Rat)) (k+2+2))) (fun _ _ _ _ g h=>am.kp h g) aa (fun _ _ h=>h.eq (uh _)) (fun _ _ h=>am.dX h) (by omega) rfl)
   (lB (bt aa (by omega) rfl (by omega) (by omega))
   aA))))))))⟩)
   (lB (tlF aa aa)
   aA)
   (fun q hq w v h=>by
    simp only [uu,List.mem_cons,List.not_mem_nil,or_false] at hq
    rcases hq with rfl
    ·exact (fun h=>h) h)) (lB (eA [1] (jw (q:=(fun ι=>((z ι:Int):Rat))) (n:=n) (k:=(k+2+2)) (fun _ _ h=>aC.rw h) rfl (by omega) (by omega)))
   aA)))
  (aJ [.fact 0 (.one (.s))] ⟨Rw.Is 2 (If z k) n,trivial⟩) bg
def oX (z:Nat->Int) (n:Nat):List WP:=[fun w v=>Rw 1 (fun i _ v=>v = .agg #[.int .i64 (z i)]) n w v,Nz n,fun w v=>aC 4 63 (fun ι w v=>am w v (((z ι:Int):Rat)) 6) n w v,fun w v=>Rw 4 (fun ι w v=>am w v (((z ι:Int):Rat)) 6) (tl (fun ι=>(((z ι:Int):Rat)).num) n) w v]
def FL (z:Nat->Int) (j:Nat):List WP:=[Nz j,fun w v=>aC 4 63 (fun ι w v=>am w v (((z ι:Int):Rat)) 6) j w v,fun _ _=>True,fun w v=>Ptr 1 (fun _ v=>v = .agg #[.int .i64 (z j)]) w v,Ni (z j),Dw (aN (z j) 1) 6,fun w v=>af w v ((aN (z j) 1).num) 6,fun w v=>af w v ((aN (z j) 1).den:Int) 6,fun w v=>aC 4 63 (fun ι w v=>am w v (((z ι:Int):Rat)) 6) (j+1) w v,Nz (j+1)]
def ux:bf:=⟨[0,2,5,6],[(.slot 7,.i),(.slot 3,.s)],[(.one 0,4),(.one 1,.bT [1] 5),(.one 1,.lo 1)],[.closed (.one (.ci .i64 0)),.closed (.one (.nl)),.frm 0],4,[(5,2)]⟩
def uy:List Step:=[bQ [.fact 4,.fact 1] oT (ai .lss),
   bQ [.fact 0,.fact 4] [oP 7] (aI 58),
   bQ [.fact 7] [oN 8] (aL 3),
   .base ⟨52,[.fact 8,.lit (.ci .i64 1)],[⟨.agg [.s,.b,.s,.b],[(0,0,9),(0,2,10),(2,2,11)]⟩],false⟩,
   .base ⟨0,[.fact 5,.row 4 [9]],[oS 12],.loose [] 1 0 (cf 36 36)⟩,
   bQ [.fact 4,.lit (.ci .i64 1)] [oN 13] (ai .add)]
def FM:List Step:=[bQ [.fact 4,.fact 1] oF (ai .lss)]
def FN:List Step:=[bQ [.fact 0] [oN 1] (aD 58),
   .loop ux [(uy,[.frm 13,.frm 12,.frm 0])] FM,
   .base ⟨49,[.fact 2],[oS 3],.df [1] false⟩]
def FO:List Out:=[oS 0]
theorem rof {z:Nat->Int}{n:Nat} (hn:n<=1000000) (hz:∀i,-9223372036854775808<=z i∧z i<=9223372036854775807):aj (ph (oX z n)) Try.prog ⟨28,[.fact 0],[oS 3],false⟩:=by
 skip
 exact aR FO [oS 3] FN Try.func28 (by kernel_rfl)
  (lB (aG (F:=(fun i _ v=>v = .agg #[.int .i64 (z i)])) Try.underlying58 aa rfl)
   (bI (counted n (fun j=>ph (oX z n ++ FL z j)) (fun _=>0) (fun j p hp=>bJ (show p<(oX z n).length from hp)) ⟨fun _=>rfl,fun w=>aC.nil 4 63 (fun ι w v=>am w v (((z ι:Int):Rat)) 6) w,aW,trivial⟩ (fun j hj=>by
   skip
   exact ⟨(uy,[.frm 13,.frm 12,.frm 0]),rfl,⟨aa,aa,aW,trivial⟩,(lB (bm aa aa)
   (lB (bc (i:=j) (F:=(fun i _ v=>v = .agg #[.int .i64 (z i)])) Try.underlying58 (by kernel_rfl) aa aa (by omega) rfl)
   (lB (ti (by kernel_rfl) aa rfl)
   (lB (Ff (y:=1) aa rfl rfl rfl (by have:=hz j;omega) (by have:=hz j;omega) (by decide) (by decide) rfl)
   (lB (kZ (n:=j) (F:=(fun ι w v=>am w v (((z ι:Int):Rat)) 6)) (fun _ _ _ _ g h=>am.kp h g) aa (fun _ _ h=>h.eq (uh _)) (fun _ _ h=>am.dX h) (by omega) rfl)
   (lB (bt aa (by omega) rfl (by omega) (by omega))
   aA))))))⟩)
   (lB (tlF aa aa)
   aA)
   (fun q hq w v h=>by
    simp only [ux,List.mem_cons,List.not_mem_nil,or_false] at hq
    rcases hq with rfl
    ·exact (fun h=>h) h)) (lB (eA [1] (jw (q:=(fun ι=>((z ι:Int):Rat))) (n:=n) (k:=6) (fun _ _ h=>aC.rw h) rfl (by omega) (by omega)))
   aA)))
  (aJ [.fact 0 (.one (.s))] ⟨Rw.Is 1 (fun i _ v=>v = .agg #[.int .i64 (z i)]) n,trivial⟩) bg
def oY (z:Nat->Int) (n k kq:Nat):List WP:=[fun w v=>Rw 4 (fun ι w v=>am w v (((z ι:Int):Rat)) kq) n w v,Rw 2 (Nf z k) n,Nz n,Nz n,Nz n]
def FP (z:Nat->Int) (k kq:Nat) (j:Nat):List WP:=[Nz j,Ptr 4 (Dw (((z j:Int):Rat)) kq),fun w v=>Ptr 2 (fun w v=>af w v ((((z j:Int):Rat)).num) kq) w v,fun w v=>af w v ((((z j:Int):Rat)).num) kq,Ptr 2 (Nw (z j) k),Nw (z j) k,Ptr 4 (Dw (((z j:Int):Rat)) kq),fun w v=>Ptr 2 (fun w v=>af w v ((((z j:Int):Rat)).den:Int) kq) w v,fun w v=>af w v ((((z j:Int):Rat)).den:Int) kq,fun w v=>af w v (1:Int) 2,Nz (j+1)]
def FQ:bf:=⟨[0,1,4,6,7,8,9,10,11,12],[(.slot 13,.i)],[(.one 0,5)],[.closed (.one (.ci .i64 0))],5,[]⟩
def uz:List Step:=[bQ [.fact 5,.fact 4] oT (ai .lss),
   bQ [.fact 0,.fact 5] [oP 6] (aI 36),
   bQ [.fact 6] [oP 7] (gT 63 0),
   bQ [.fact 7] [oD 8] (aL 61),
   bQ [.fact 1,.fact 5] [oP 9] (aI 29),
   bQ [.fact 9] [oI 10] (aL 66),
   .base ⟨29,[.fact 8,.fact 10],oT,false⟩,
   bQ [.fact 0,.fact 5] [oP 11] (aI 36),
   bQ [.fact 11] [oP 12] (gT 63 1),
   bQ [.fact 12] [oD 13] (aL 61),
   .base ⟨31,[.lit (.ci .i64 1)],[oD 14],false⟩,
   .base ⟨30,[.fact 13,.fact 14],[oL (.ci .i64 0)],false⟩,
   bQ [.fact 5,.lit (.ci .i64 1)] [oN 15] (ai .add)]
def FR:List Step:=[bQ [.fact 5,.fact 4] oF (ai .lss)]
def FT:List Step:=[bQ [.fact 0] [oN 2] (aD 36),
   bQ [.fact 1] [oN 3] (aD 29),
   bQ [.fact 2,.fact 3] oF (ai .neq),
   bQ [.fact 0] [oN 4] (aD 36),
   .loop FQ [(uz,[.frm 15])] FR]
def FU:List Out:=[oS 0,oS 1]
theorem FV {z:Nat->Int}{n k kq:Nat} (hn:n<=1000000) (hkq:kq<=500000) (_hk:k<=500000):aj (ph (oY z n k kq)) Try.prog ⟨12,[.fact 0,.fact 1],oT,false⟩:=by
 skip
 exact aR FU oT FT Try.func12 (by kernel_rfl)
  (lB (aG (F:=(fun ι w v=>am w v (((z ι:Int):Rat)) kq)) Try.underlying36 aa rfl)
   (lB (aG (F:=(Nf z k)) Try.underlying29 aa rfl)
   (lB (cM (op:=.neq) aa aa (aS (decide_eq_false (fun h=>h rfl)) (by simp)))
   (lB (aG (F:=(fun ι w v=>am w v (((z ι:Int):Rat)) kq)) Try.underlying36 aa rfl)
   (bI (counted n (fun j=>ph (oY z n k kq ++ FP z k kq j)) (fun _=>0) (fun j p hp=>bJ (show p<(oY z n k kq).length from hp)) ⟨fun _=>rfl,trivial⟩ (fun j hj=>by
   skip
   exact ⟨(uz,[.frm 15]),rfl,⟨aa,trivial⟩,(lB (bm aa aa)
   (lB (bc (i:=j) (F:=(fun ι w v=>am w v (((z ι:Int):Rat)) kq)) Try.underlying36 (by kernel_rfl) aa aa (by omega) rfl)
   (lB (LB (off:=0) (len:=2) (sz:=4) (F:=Dw (((z j:Int):Rat)) kq) (G:=fun w v=>af w v ((((z j:Int):Rat)).num) kq) (by kernel_rfl) aa (by omega) (fun _ _ h=>am.fst' h) rfl)
   (lB (cw (sz:=2) (F:=fun w v=>af w v ((((z j:Int):Rat)).num) kq) (by kernel_rfl) (by kernel_rfl) aa (fun _ _ _ g h=>af.kp h g) (fun _ _ h=>af.is h) rfl)
   (lB (bc (i:=j) (F:=(Nf z k)) Try.underlying29 (by kernel_rfl) aa aa (by omega) rfl)
   (lB (cw (sz:=2) (F:=Nw (z j) k) (by kernel_rfl) (by kernel_rfl) aa (fun _ _ _ g h=>au.kp h g) (fun _ _ h=>au.is h) rfl)
   (lB (FW dD nN (by omega) rfl rfl)
   (lB (bc (i:=j) (F:=(fun ι w v=>am w v (((z ι:Int):Rat)) kq)) Try.underlying36 (by kernel_rfl) aa aa (by omega) rfl)
   (lB (LB (off:=2) (len:=2) (sz:=4) (F:=Dw (((z j:Int):Rat)) kq) (G:=fun w v=>af w v ((((z j:Int):Rat)).den:Int) kq) (by kernel_rfl) aa (by omega) (fun _ _ h=>am.snd' h) rfl)
   (lB (cw (sz:=2) (F:=fun w v=>af w v ((((z j:Int):Rat)).den:Int) kq) (by kernel_rfl) (by kernel_rfl) aa (fun _ _ _ g h=>af.kp h g) (fun _ _ h=>af.is h) rfl)
   (lB (uw (z:=1) rfl (by decide) (by decide) rfl)
   (lB (Fg dD dD (by omega) (Fc _))
   (lB (bt aa (by omega) rfl (by omega) (by omega))
   aA)))))))))))))⟩)
   (lB (tlF aa aa)
   aA)
   (fun q hq=>by cases hq)) aA)))))
  (aJ [.fact 0 (.one (.s)),.fact 1 (.one (.s))] ⟨Rw.Is 4 (fun ι w v=>am w v (((z ι:Int):Rat)) kq) n,Rw.Is 2 (Nf z k) n,trivial⟩) bg
section
variable {Φ:PH}{p q x n k kq:Nat}{z:Nat->Int}
theorem jM (hp:∀w v,Φ p w v->Rw 4 (fun i w v=>am w v ((z i:Int):Rat) kq) n w v) (hq:∀w v,Φ q w v->Rw 2 (Nf z k) n w v) (hn:n<=1000000) (hkq:kq<=500000) (hk:k<=500000):aj Φ Try.prog ⟨12,[.fact p,.fact q],oT,false⟩:=
 aT (FV hn hkq hk) ⟨hp,hq,trivial⟩ ⟨⟨rfl,trivial⟩,trivial⟩
end
section
variable {Φ:PH}{p q r x n n0 k K m kq:Nat}{z:Nat->Int}
theorem uC {k:Nat}{L:List Int}{w:World}{v:Value} (hL:ad (mk n z)=L) (h:Rw 4 (fun i w v=>am w v ((z i:Int):Rat) k) (tl z n) w v):Rw 4 (fun i w v=>am w v ((ae L i:Int):Rat) k) L.length w v:=by
 subst hL
 exact Rw.len (Rw.to h fun i w v hi h=>by show am w v ((ae _ i:Int):Rat) k;rw [<- ug (Nat.lt_of_lt_of_le hi (bC _ _)),el (Nat.lt_of_lt_of_le hi (bC _ _))];exact h) (by rw [iE])
theorem MC {L:List Int} (hp:∀w v,Φ p w v->Rw 2 (If z k) n w v) (hx:Φ x=fun w v=>Rw 4 (fun i w v=>am w v ((ae L i:Int):Rat) (k+2+2)) L.length w v) (hn:n<=1000000) (hk:k<=50000) (hL:ad (mk n z)=L):aj Φ Try.prog ⟨23,[.fact p],[oS x],false⟩:=
 aT (FJ hn hk) ⟨hp,trivial⟩ ⟨⟨rfl,⟨rfl,rfl,fun _ _ h=>hx▸uC hL h⟩,trivial⟩,trivial⟩
theorem rT {L:List Int} (hp:∀w v,Φ p w v->Rw 1 (fun i _ v=>v = .agg #[.int .i64 (z i)]) n w v) (hx:Φ x=fun w v=>Rw 4 (fun i w v=>am w v ((ae L i:Int):Rat) 6) L.length w v) (hn:n<=1000000) (hz:∀i,-9223372036854775808<=z i∧z i<=9223372036854775807) (hL:ad (mk n z)=L):aj Φ Try.prog ⟨28,[.fact p],[oS x],false⟩:=
 aT (rof hn hz) ⟨hp,trivial⟩ ⟨⟨rfl,⟨rfl,rfl,fun _ _ h=>hx▸uC hL h⟩,trivial⟩,trivial⟩
theorem Am {a:Nat->Bool}{xs:Nat->List Nat} (K m:Nat) (hp:∀w v,Φ p w v->Rw 2 (fun i w v=>KR w v (a i) (xs i)) n0 w v) (hq:∀w v,Φ q w v->v = .int .i64 (K:Int)) (hr:∀w v,Φ r w v->v = .int .i64 (m:Int)) (hx:Φ x=fun w v=>Rw 2 (fun i w v=>KI w v (a i) ((xs i).take m) (z i) m) n w v) (hn:n0<=9223372036854775807) (hKm:K<=1000000) (hz:∀j,sg (a j) (Proofs.Ytomamliepbhegaa.val 4294967296 ((xs j).take m))=z j) (hN:min n0 K=n) :
  aj Φ Try.prog ⟨17,[.fact p,.fact q,.fact r],[oS x],false⟩:=by
 rcases Nat.lt_or_ge K n0 with h | h
 ·exact aT (Fs (N:=n) hn hKm hz (by omega) h) ⟨hp,hq,hr,trivial⟩ ⟨⟨rfl,⟨rfl,rfl,fun _ _ h=>hx▸aC.rw (e:=66) h⟩,trivial⟩,trivial⟩
 ·exact aT (Fn (N:=n) hn hKm hz (by omega) (by omega)) ⟨hp,hq,hr,trivial⟩ ⟨⟨rfl,⟨rfl,rfl,fun _ _ h=>hx▸aC.rw (e:=66) h⟩,trivial⟩,trivial⟩
end
end Go.Proofs.Ytomamliepbhegaa.Sym
