/- poly.trim -/
import Derived.Test.YtomamliepbhegaaGreatPolC
set_option maxRecDepth 100000
namespace Go.Proofs.YtomamliepbhegaaGreat.Sym
open Go.Proofs.Tryz
open Go.RowKit
variable {ez f z:Nat->Int}{F:PH}{K N i k m n n0:Nat}{w:World}{v:Value}{b:Bool}{xs:List Nat}{l:List Value}{q:Rat}{y:Int}{a:Nat->Bool}{L:List Int}
theorem AU {z:Int} (h:dJ z 0=0):z=0:=by
 unfold dJ at h
 split at h
 ·cases h
 ·split at h
  ·assumption
  ·cases h
def mh (Ψ Φ:PH):List (Nat×Nat×Nat)->List (Nat×Nat×Nat)->Prop
 | [],[]=>True
 | a :: l,b :: m=>(a.1=b.1∧a.2.1=b.2.1∧∀w v,Ψ a.2.2 w v->Φ b.2.2 w v)∧mh Ψ Φ l m
 | _,_=>False
theorem mh.ok {Φ Ψ:PH}{X:Nat->Prop}{w:World}{v:Value}:∀{l m:List (Nat×Nat×Nat)},mh Ψ Φ l m->(∀q,q ∈ l->∀w1,Off X w w1->Ψ q.2.2 w1 (bw q.1 q.2.1 v))->∀q,q ∈ m->∀w1,Off X w w1->Φ q.2.2 w1 (bw q.1 q.2.1 v)
 | [],[],_,_,q,hq,_,_=>by cases hq
 | a :: l,b :: m,h,ha,q,hq,w1,hw=>by
  rcases List.mem_cons.1 hq with rfl | hq
  ·have:=ha a (List.mem_cons_self ..) w1 hw
   rw [<- h.1.1,<- h.1.2.1]
   exact h.1.2.2 _ _ this
  ·exact mh.ok h.2 (fun q hq=>ha q (List.mem_cons_of_mem _ hq)) q hq w1 hw
def oV (Φ Ψ:PH) (p:Nat):List (Nat×Nat×Nat)->Prop
 | []=>True
 | q :: l=>(∀w v,Φ p w v->Ψ q.2.2 w (bw q.1 q.2.1 v))∧oV Φ Ψ p l
theorem oV.ok {Φ Ψ:PH}{p:Nat}:∀{l:List (Nat×Nat×Nat)},oV Φ Ψ p l->∀q,q ∈ l->∀w v,Φ p w v->Ψ q.2.2 w (bw q.1 q.2.1 v)
 | _ :: l,h,q,hq=>by
  rcases List.mem_cons.1 hq with rfl | hq
  ·exact h.1
  ·exact oV.ok h.2 q hq
def fu (Φ Ψ:PH):List Arg->List Arg->Prop
 | [],[]=>True
 | .fact p :: l,.fact q :: m=>(∀w v,Φ p w v->Ψ q w v)∧fu Φ Ψ l m
 | .lit a :: l,.lit b :: m=>a=b∧fu Φ Ψ l m
 | .lit a :: l,.fact q :: m=>(∀w,Ψ q w (a.ev aO))∧fu Φ Ψ l m
 | .any :: l,.any :: m=>fu Φ Ψ l m
 | .parts sh fs :: l,.parts sh' fs' :: m=>(sh=sh'∧mh Φ Ψ fs fs')∧fu Φ Ψ l m
 | .fact p :: l,.parts sh fs :: m=>((∀w v,Φ p w v->sh.is v)∧oV Φ Ψ p fs)∧fu Φ Ψ l m
 | _,_=>False
def oU (Ψ Φ:PH):List Out->List Out->Prop
 | [],[]=>True
 | a :: l,b :: m=>(a.sh=b.sh∧mh Ψ Φ a.fs b.fs)∧oU Ψ Φ l m
 | _,_=>False
theorem fu.ok {Φ Ψ:PH}{X:Nat->Prop}{w:World}:∀{l m:List Arg}{vs:List Value},fu Φ Ψ l m->cH Φ X w l vs->cH Ψ X w m vs
 | [],[],[],_,_=>trivial
 | .fact _ :: _,.fact _ :: _,_ :: _,h,ha=>⟨fun w1 hw=>h.1 _ _ (ha.1 w1 hw),fu.ok h.2 ha.2⟩
 | .lit _ :: _,.lit _ :: _,_ :: _,h,ha=>⟨h.1▸ha.1,fu.ok h.2 ha.2⟩
 | .any :: _,.any :: _,_ :: _,h,ha=>⟨trivial,fu.ok h ha.2⟩
 | .lit _ :: _,.fact _ :: _,_ :: _,h,ha=>⟨fun w1 _=>by rw [show _=_ from ha.1];exact h.1 w1,fu.ok h.2 ha.2⟩
 | .parts _ _ :: _,.parts _ _ :: _,_ :: _,h,ha=>⟨⟨h.1.1▸ha.1.1,mh.ok h.1.2 ha.1.2⟩,fu.ok h.2 ha.2⟩
 | .fact _ :: _,.parts _ _ :: _,_ :: _,h,ha=>⟨⟨h.1.1 _ _ (get ha.1),fun q hq w1 hw=>oV.ok h.1.2 q hq w1 _ (ha.1 w1 hw)⟩,fu.ok h.2 ha.2⟩
theorem oU.ok {Φ Ψ:PH}{X:Nat->Prop}{w:World}:∀{l m:List Out}{us:List Value},oU Ψ Φ l m->bp Ψ X w l us->bp Φ X w m us
 | [],[],[],_,_=>trivial
 | _ :: _,_ :: _,_ :: _,h,ha=>⟨⟨h.1.1▸ha.1.1,mh.ok h.1.2 ha.1.2⟩,oU.ok h.2 ha.2⟩
theorem aW {P:Program}{Φ Ψ:PH}{f:FuncId}{ar qT:List Arg}{outs qU:List Out}{be:Bool} (h:aj Ψ P ⟨f,qT,qU,.call be⟩) (ha:fu Φ Ψ ar qT) (ho:oU Ψ Φ qU outs):aj Φ P ⟨f,ar,outs,.call be⟩:=
 fun X w vs hX h'=>(h X w vs hX (ha.ok h')).mono fun _ _w' ⟨hg,us,he,h2⟩=>⟨hg,us,he,ho.ok h2⟩
def yi (F:PH) (z:Nat->Int) (n0:Nat):List WP:=[Rw 2 F n0,Nz n0,Ni ((tl z n0:Nat):Int),Rw 2 F (tl z n0)]
def aaz (F:PH) (z:Nat->Int) (n0:Nat) (j:Nat):List WP:=[Nz (n0-j),Nz (n0-(j+1)),Ptr 2 (F (n0-(j+1))),F (n0-(j+1)),Nw 0 0,Ni (dJ (z (n0-(j+1))) (0:Int)),Nz (n0-(j+1))]
def IA:bf:=⟨[0,2,4,5],[(.slot 3,.i)],[(.one 0,4)],[.frm 1],4,[(4,2)]⟩
def IB:List Step:=[.derive (.agg [.cb false,.nl]) (.agg [.lit (.cb false),.lit (.nl)]) [] 8,bQ [4,.lit (.ci .i64 0)] oT (ak .gtr),bQ [4,.lit (.ci .i64 1)] [oN 5] (ak .sub),bQ [0,5] [oP 6] (aH 28),bQ [6] [oI 7] (aI 57),.base ⟨53,[7,8],[oN 9],false⟩,bQ [9,.lit (.ci .i64 0)] oT (ak .eql),bQ [4,.lit (.ci .i64 1)] [oN 10] (ak .sub)]
def aaA:List Step:=[bQ [4,.lit (.ci .i64 0)] oF (ak .gtr)]
def aaB:List Step:=[bQ [0] [oN 1] (aC 28),.loop IA [(IB,[.frm 10])] aaA,bQ [0,2] [oS 3] (ec 28)]
def aaC:List Out:=[oS 0]
theorem aaD  (hF:∀i w v,F i w v->aE w v (z i) k) (hK:∀i w w1 v,Kp w w1->F i w v->F i w1 v) (hn:n0<=1000000) (hk:k<=500000) (ht:tl z n0=0):aj (ph (yi F z n0)) prog ⟨42,[0],[oS 3],false⟩:=by
 have hle:=aL z n0
 exact aV aaC [oS 3] aaB func42 (by kernel_rfl) (lB (aJ (F:=F) underlying28 ad rfl) (bk (counted (n0-tl z n0) (fun j=>ph (yi F z n0 ++ aaz F z n0 j)) (fun _=>0) (fun j p hp=>bm (show p<(yi F z n0).length from hp)) ⟨ad,trivial⟩ (fun j hj=>by
   have h0:z (n0-(j+1))=0:=gK z n0 _ (by omega) (by omega)
   exact ⟨(IB,[.frm 10]),rfl,⟨ad,trivial⟩,(ej (nZ rfl) (lB (eX ad) (lB (bO ad rfl) (lB (bz (i:=(n0-(j+1))) (F:=F) underlying28 ad ad rfl) (lB (cm (sz:=2) (F:=F (n0-(j+1))) ad (fun w w1 v g h=>hK (n0-(j+1)) w w1 v g h) (fun w v h=>aE.is (hF (n0-(j+1)) w v h)) rfl) (lB (oc (hF (n0-(j+1))) nI rfl rfl) (lB (dp (op:=.eql) ad (cY (decide_eq_true (by rw [h0];rfl)) (by simp))) (lB (bO ad rfl) au))))))))⟩)
   (by
   have hle:=aL z n0
   exact (lB (kC ad) au))
   (fun q hq w v h=>by
    simp only [IA,List.mem_cons,List.not_mem_nil,or_false] at hq
    rcases hq with rfl
    ·exact (fun h=>h.trans (congrArg (Value.int .i64) (by have:=aL z n0;omega))) h)) (lB (lE (m:=(tl z n0)) (n:=n0) (F:=F) underlying28 ad ad (by first | omega | exact aL _ _) rfl) au)))
  (aK [.fact 0 (.one (.s))] ⟨Rw.Is 2 F n0,trivial⟩) bg
def yj (F:PH) (z:Nat->Int) (n0:Nat):List WP:=[Rw 2 F n0,Nz n0,Ni ((tl z n0:Nat):Int),Rw 2 F (tl z n0)]
def aaE (F:PH) (z:Nat->Int) (n0:Nat) (j:Nat):List WP:=[Nz (n0-j),Nz (n0-(j+1)),Ptr 2 (F (n0-(j+1))),F (n0-(j+1)),Nw 0 0,Ni (dJ (z (n0-(j+1))) (0:Int)),Nz (n0-(j+1)),Nz (tl z n0-1),Ptr 2 (F (tl z n0-1)),F (tl z n0-1),Nw 0 0,Ni (dJ (z (tl z n0-1)) (0:Int))]
def IC:bf:=⟨[0,2,4,5],[(.slot 3,.i)],[(.one 0,4)],[.frm 1],4,[(4,2)]⟩
def ID:List Step:=[.derive (.agg [.cb false,.nl]) (.agg [.lit (.cb false),.lit (.nl)]) [] 8,bQ [4,.lit (.ci .i64 0)] oT (ak .gtr),bQ [4,.lit (.ci .i64 1)] [oN 5] (ak .sub),bQ [0,5] [oP 6] (aH 28),bQ [6] [oI 7] (aI 57),.base ⟨53,[7,8],[oN 9],false⟩,bQ [9,.lit (.ci .i64 0)] oT (ak .eql),bQ [4,.lit (.ci .i64 1)] [oN 10] (ak .sub)]
def aaF:List Step:=[.derive (.agg [.cb false,.nl]) (.agg [.lit (.cb false),.lit (.nl)]) [] 14,bQ [4,.lit (.ci .i64 0)] oT (ak .gtr),bQ [4,.lit (.ci .i64 1)] [oN 11] (ak .sub),bQ [0,11] [oP 12] (aH 28),bQ [12] [oI 13] (aI 57),.base ⟨53,[13,14],[oN 15],false⟩,bQ [15,.lit (.ci .i64 0)] oF (ak .eql)]
def aaG:List Step:=[bQ [0] [oN 1] (aC 28),.loop IC [(ID,[.frm 10])] aaF,bQ [0,2] [oS 3] (ec 28)]
def aaH:List Out:=[oS 0]
theorem aaI  (hF:∀i w v,F i w v->aE w v (z i) k) (hK:∀i w w1 v,Kp w w1->F i w v->F i w1 v) (hn:n0<=1000000) (hk:k<=500000) (ht:0<tl z n0):aj (ph (yj F z n0)) prog ⟨42,[0],[oS 3],false⟩:=by
 have hle:=aL z n0
 exact aV aaH [oS 3] aaG func42 (by kernel_rfl) (lB (aJ (F:=F) underlying28 ad rfl) (bk (counted (n0-tl z n0) (fun j=>ph (yj F z n0 ++ aaE F z n0 j)) (fun _=>0) (fun j p hp=>bm (show p<(yj F z n0).length from hp)) ⟨ad,trivial⟩ (fun j hj=>by
   have h0:z (n0-(j+1))=0:=gK z n0 _ (by omega) (by omega)
   exact ⟨(ID,[.frm 10]),rfl,⟨ad,trivial⟩,(ej (nZ rfl) (lB (eX ad) (lB (bO ad rfl) (lB (bz (i:=(n0-(j+1))) (F:=F) underlying28 ad ad rfl) (lB (cm (sz:=2) (F:=F (n0-(j+1))) ad (fun w w1 v g h=>hK (n0-(j+1)) w w1 v g h) (fun w v h=>aE.is (hF (n0-(j+1)) w v h)) rfl) (lB (oc (hF (n0-(j+1))) nI rfl rfl) (lB (dp (op:=.eql) ad (cY (decide_eq_true (by rw [h0];rfl)) (by simp))) (lB (bO ad rfl) au))))))))⟩)
   (by
   have hle:=aL z n0;have hl:=fb z n0 ht
   exact (ej (nZ rfl) (lB (eX ad) (lB (bO ad rfl) (lB (bz (i:=(tl z n0-1)) (F:=F) underlying28 ad ad rfl) (lB (cm (sz:=2) (F:=F (tl z n0-1)) ad (fun w w1 v g h=>hK (tl z n0-1) w w1 v g h) (fun w v h=>aE.is (hF (tl z n0-1) w v h)) rfl) (lB (oc (hF (tl z n0-1)) nI rfl rfl) (lB (dp (op:=.eql) ad (cY (decide_eq_false (fun h=>hl (AU h))) (by simp))) au))))))))
   (fun q hq w v h=>by
    simp only [IC,List.mem_cons,List.not_mem_nil,or_false] at hq
    rcases hq with rfl
    ·exact (fun h=>h.trans (congrArg (Value.int .i64) (by have:=aL z n0;omega))) h)) (lB (lE (m:=(tl z n0)) (n:=n0) (F:=F) underlying28 ad ad (by first | omega | exact aL _ _) rfl) au)))
  (aK [.fact 0 (.one (.s))] ⟨Rw.Is 2 F n0,trivial⟩) bg
section
variable {Φ:PH}{p x:Nat}
theorem iN (hp:∀w v,Φ p w v->Rw 2 F n w v) (hF:∀i w v,F i w v->aE w v (z i) k) (hK:∀i w w1 v,Kp w w1->F i w v->F i w1 v) (hx:Φ x=Rw 2 F (tl z n)) (hn:n<=1000000:=by omega) (hk:k<=500000:=by omega):aj Φ prog ⟨42,[.fact p],[oS x],false⟩:=by
 rcases Nat.eq_zero_or_pos (tl z n) with h | h
 ·exact aW (aaD hF hK hn hk h) ⟨hp,trivial⟩ ⟨⟨rfl,⟨rfl,rfl,fun _ _ h=>hx▸h⟩,trivial⟩,trivial⟩
 ·exact aW (aaI hF hK hn hk h) ⟨hp,trivial⟩ ⟨⟨rfl,⟨rfl,rfl,fun _ _ h=>hx▸h⟩,trivial⟩,trivial⟩
end
def yk (z:Nat->Int) (n:Nat):List WP:=[fun w v=>Rw 1 (fun i _ v=>v = .agg #[.int .i64 (z i)]) n w v,Nz n,ah 2 57 (Nf (upto 0 z) 2) n,Nz n,ah 2 57 (Nf (upto n z) 2) n,Rw 2 (Nf (upto n z) 2) (tl (upto n z) n)]
def aaJ (z:Nat->Int) (n:Nat) (j:Nat):List WP:=[Nz j,ah 2 57 (Nf (upto j z) 2) n,fun _ _=>True,fun w v=>Ptr 1 (fun _ v=>v = .agg #[.int .i64 (z j)]) w v,Ni (z j),Nw (z j) 2,At 2,Ptr 2 (Nw ((upto j z) j) 2),fun w v=>ah 2 57 (fun i w v=>ai w v ((upto (j+1) z) i) 2) n w v,Nz (j+1)]
def IE:bf:=⟨[0,2,6,7,8,9,10],[(.slot 11,.i),(.slot 3,.s)],[(.one 0,6),(.one 1,.bB [1] 7),(.one 1,.lo 1)],[.closed (.one (.ci .i64 0)),.frm 2,.frm 0],6,[(7,4)]⟩
def IF:List Step:=[bQ [6,3] oT (ak .lss),bQ [0,6] [oP 9] (aH 22),bQ [9] [oN 10] (aI 3),.base ⟨54,[10],[oI 11],false⟩,.base ⟨0,[7,6],[oP 13],.joint [1] 12 (aH 28)⟩,.base ⟨0,[7,6,.any,11],[oS 14],.put [] 1 0 12 (dR 57 (.tmp 16) (.tmp 17))⟩,bQ [6,.lit (.ci .i64 1)] [oN 15] (ak .add)]
def aaK:List Step:=[bQ [6,3] oF (ak .lss)]
def aaL:List Step:=[bQ [0] [oN 1] (aC 22),.base ⟨0,[1,1],[oS 2],.loose [] 1 0 (fE 28)⟩,bQ [0] [oN 3] (aC 22),.loop IE [(IF,[.frm 15,.frm 14,.frm 0])] aaK,.base ⟨42,[4],[oS 5],.cC [1] false⟩]
def aaM:List Out:=[oS 0]
theorem pof  (hn:n<=1000000) (hz:∀i,-9223372036854775808<=z i∧z i<=9223372036854775807):aj (ph (yk z n)) prog ⟨20,[0],[oS 5],false⟩:=aV aaM [oS 5] aaL func20 (by kernel_rfl) (lB (aJ (F:=(fun i _ v=>v = .agg #[.int .i64 (z i)])) underlying22 ad rfl) (lB (jc (n:=n) (F:=(Nf (upto 0 z) 2)) ad (fun i w=>ai.zero w 2) rfl) (lB (aJ (F:=(fun i _ v=>v = .agg #[.int .i64 (z i)])) underlying22 ad rfl) (bk (counted n (fun j=>ph (yk z n ++ aaJ z n j)) (fun _=>0) (fun j p hp=>bm (show p<(yk z n).length from hp)) ⟨fun _=>rfl,ad,aP,trivial⟩ (fun j hj=>by
   skip
   exact ⟨(IF,[.frm 15,.frm 14,.frm 0]),rfl,⟨ad,ad,aP,trivial⟩,(lB (bT ad ad) (lB (bz (i:=j) (F:=(fun i _ v=>v = .agg #[.int .i64 (z i)])) underlying22 ad ad rfl) (lB (HJ ad rfl) (lB (mW ad rfl (h1:=(by have:=hz j;omega)) (h2:=(by have:=hz j;omega)) rfl) (lB (bW (i:=j) (sz:=2) (n:=n) (F:=(Nf (upto j z) 2)) underlying28 (fun _ _ h=>ah.arr h) ad rfl rfl) (lB (fD (i:=j) (n:=n) (F:=(fun i w v=>ai w v ((upto j z) i) 2)) (F':=(fun i w v=>ai w v ((upto (j+1) z) i) 2)) (G:=Nw (z j) 2) (.tmp 16) (.tmp 17) ad ad ad rfl (fun _ _ h=>ai.cells h) (fun _ _ _ _ g h=>ai.kp h g) (fun _ _ _ g h=>ai.kp h g) (fun i w v hi h=>by rw [od hi];exact h) (fun w v h=>by rw [oe];exact h) rfl) (lB (ce ad rfl) au)))))))⟩) (lB (tlF ad ad) au)
   (fun q hq w v h=>by
    simp only [IE,List.mem_cons,List.not_mem_nil,or_false] at hq
    rcases hq with rfl
    ·exact (fun h=>h) h)) (lB (cS [1] (iN (z:=(upto n z)) (n:=n) (k:=2) (F:=(Nf (upto n z) 2)) (fun _ _ h=>ah.rw h) (fun _ _ _ h=>ai.i h) (fun _ _ _ _ g h=>ai.kp h g) rfl)) au)))))
  (aK [.fact 0 (.one (.s))] ⟨Rw.Is 1 (fun i _ v=>v = .agg #[.int .i64 (z i)]) n,trivial⟩) bg
def aaN (n:Nat):List WP:=[cw n,Nz n,Ni (((n:Nat):Int)-1)]
def aaO:List Step:=[bQ [0] [oN 1] (aC 28),bQ [1,.lit (.ci .i64 1)] [oN 2] (ak .sub)]
def aaP:List Out:=[oS 0]
theorem aaQ  (hn:n<=1000000):aj (ph (aaN n)) prog ⟨35,[0],[oN 2],false⟩:=aV aaP [oN 2] aaO func35 (by kernel_rfl) (lB (ch (n:=n) underlying28 ad rfl) (lB (bO ad (hc:=(rfl)) rfl) au))
  (aK [.fact 0 (.one (.s))] ⟨fun w _ h=>cw.is (n:=n) (w:=w) h,trivial⟩) bg
def aaR (z:Nat->Int) (n k:Nat) (i:Nat):List WP:=[Rw 2 (If z k) n,Nz i,Nz n,Ptr 2 (Iw (z i) k),Iw (z i) k]
def aaS:List Step:=[bQ [0] [oN 2] (aC 28),bQ [1,2] oT (ak .lss),bQ [0,1] [oP 3] (aH 28),bQ [3] [oI 4] (aI 57)]
def aaT:List Out:=[oS 0,oN 1]
theorem aaU  (hi:i<n):aj (ph (aaR z n k i)) prog ⟨83,[0,1],[oI 4],false⟩:=aV aaT [oI 4] aaS func83 (by kernel_rfl) (lB (aJ (F:=(If z k)) underlying28 ad rfl) (lB (bT ad ad) (lB (bz (i:=i) (F:=(If z k)) underlying28 ad ad rfl) (lB (cm (sz:=2) (F:=Iw (z i) k) ad (fun _ _ _ g h=>aE.kp h g) (fun _ _ h=>aE.is h) rfl) au))))
  (aK [.fact 0 (.one (.s)),.fact 1 (.one (.i))] ⟨Rw.Is 2 (If z k) n,fun _ _ h=>h▸fa _,trivial⟩) (fun _ _ _ h=>h)
def aaV (z:Nat->Int) (n k:Nat) (i:Nat):List WP:=[Rw 2 (If z k) n,Nz i,Nz n]
def aaW:List Step:=[bQ [0] [oN 2] (aC 28),bQ [1,2] oF (ak .lss)]
def aaX:List Out:=[oS 0,oN 1]
theorem aaY  (hi:n<=i):aj (ph (aaV z n k i)) prog ⟨83,[0,1],[⟨.agg [.lit (.cb false),.lit (.nl)],[]⟩],false⟩:=aV aaX [⟨.agg [.lit (.cb false),.lit (.nl)],[]⟩] aaW func83 (by kernel_rfl) (lB (aJ (F:=(If z k)) underlying28 ad rfl) (lB (tlF ad ad) au))
  (aK [.fact 0 (.one (.s)),.fact 1 (.one (.i))] ⟨Rw.Is 2 (If z k) n,fun _ _ h=>h▸fa _,trivial⟩) (fun _ _ _ h=>h)
theorem IG  (h:i<n):upto n f i=ae (aG (mk n f)) i:=by rw [mz,eG,gx h,if_pos h]
theorem aaZ (n:Nat) (f:Nat->Int):tl (upto n f) n=(aG (mk n f)).length:=by
 rw [iE];exact pR fun i hi=>gx hi
theorem yf  (h:Rw 2 (Nf (upto n f) k) (tl (upto n f) n) w v):Rw 2 (Nf (ae (aG (mk n f))) k) (aG (mk n f)).length w v:=
 Rw.len (Rw.to h fun i w v hi h=>by show ai w v _ k;rw [<- IG (Nat.lt_of_lt_of_le hi (aL _ _))];exact h) (aaZ n f)
section
variable {Φ:PH}{p q x:Nat}{t:Int}
theorem kX {zs:List Int} (hp:∀w v,Φ p w v->Rw 1 (fun i _ v=>v = .agg #[.int .i64 (z i)]) n w v) (hx:Φ x=Rw 2 (Nf (ae zs) 2) zs.length) (hz:∀i,-9223372036854775808<=z i∧z i<=9223372036854775807) (hn:n<=1000000:=by omega) (hzs:aG (mk n z)=zs:=by decide):aj Φ prog ⟨20,[.fact p],[oS x],false⟩:=
 aW (pof hn hz) ⟨hp,trivial⟩ ⟨⟨rfl,⟨rfl,rfl,fun _ _ h=>hx▸hzs▸yf h⟩,trivial⟩,trivial⟩
theorem kG (hp:∀w v,Φ p w v->cw n w v) (hx:Φ x=Ni t) (hn:n<=1000000:=by omega) (ht:((n:Nat):Int)-1=t:=by omega):aj Φ prog ⟨35,[.fact p],[oN x],false⟩:=
 aW (aaQ hn) ⟨hp,trivial⟩ ⟨⟨rfl,⟨rfl,rfl,fun _ _ h=>hx▸ht▸h⟩,trivial⟩,trivial⟩
theorem aa0 {us:List Value}{X:Nat->Prop} (hx:Φ x=Iw 0 k) (h:bp Φ X w [⟨.agg [.lit (.cb false),.lit .nl],[]⟩] us):bp Φ X w [⟨iS,[(0,0,x)]⟩] us:=by
 match us,h with
 | [u],h=>
  obtain ⟨⟨⟨vs,rfl,h2⟩,_⟩,_⟩:=h
  match vs,h2 with
  | [v0,v1],h2=>
   obtain ⟨e0,e1,_⟩:=h2
   have qB:v0 = .bool false:=e0
   have e1':v1 = .slice none 0 0:=e1
   subst qB;subst e1'
   exact cL qV hx fun w1 _=>(ai.zero w1 k).i
theorem ye (hp:∀w v,Φ p w v->Rw 2 (If z k) n w v) (hq:∀w v,Φ q w v->v = .int .i64 (i:Int)) (hx:Φ x=Iw t k) (h1:i<n->z i=t) (h2:n<=i->t=0) (_hn:n<=1000000:=by omega):aj Φ prog ⟨83,[.fact p,.fact q],[⟨iS,[(0,0,x)]⟩],false⟩:=by
 rcases Nat.lt_or_ge i n with h | h
 ·exact aW (aaU (z:=z) (k:=k) (n:=n) h) ⟨hp,hq,trivial⟩ ⟨⟨rfl,⟨rfl,rfl,fun _ _ h'=>hx▸h1 h▸h'⟩,trivial⟩,trivial⟩
 ·intro X w vs hX ha
  have ht:=h2 h
  subst ht
  refine (aW (outs:=[⟨.agg [.lit (.cb false),.lit .nl],[]⟩]) (Φ:=Φ) (ar:=[.fact p,.fact q]) (aaY (z:=z) (k:=k) (n:=n) h) ⟨hp,hq,trivial⟩ ⟨⟨rfl,trivial⟩,trivial⟩ X w vs hX ha).mono fun e w' ⟨hg,us,he,h2⟩=>⟨hg,us,he,aa0 hx h2⟩
end
def KI (w:World) (v:Value) (b:Bool) (xs:List Nat) (z:Int) (k:Nat):Prop:=aT w v b xs∧aE w v z k
theorem KI.kp {w':World}{z:Int} (h:KI w v b xs z k) (g:Kp w w'):KI w' v b xs z k:=⟨h.1.kp g,h.2.kp g⟩
theorem KI.fQ {z:Int} (h:KI w (.agg l.toArray) b xs z k):∀u,u ∈ l->u.oneCell'=true∧cX u:=aE.fQ h.2
theorem al.fst'  (h:al w (.agg l.toArray) q k):af w (.agg ((l.drop 0).take 2).toArray) q.num k:=by
 have:=al.fst h
 simpa [bw,cellsOf,Value.cells] using this
theorem al.snd'  (h:al w (.agg l.toArray) q k):af w (.agg ((l.drop 2).take 2).toArray) (q.den:Int) k:=by
 have:=al.snd h
 simpa [bw,cellsOf,Value.cells] using this
theorem jH (z:Int):aR z 1=((z:Int):Rat):=by
 rw [aa1,<- Rat.mk_den_one,Rat.mk_eq_divInt];rfl
theorem aa2 (z:Int):dJ (((z:Int):Rat).den:Int) 1=0:=by
 show dJ 1 1=0
 decide
section
variable {Φ:PH}{p q x x1 x2 j:Nat}
theorem IH (k:Nat){z:Int} (hp:∀w v,Φ p w v->aT w v b xs) (hq:∀w v,Φ q w v->v = .int .i64 (k:Int)) (hx:Φ x=fun w v=>KI w v b (xs.take k) z k) (hz:sg b (Proofs.YtomamliepbhegaaGreat.val 4294967296 (xs.take k))=z):aj Φ prog ⟨41,[.fact p,.fact q],[⟨iS,[(0,0,x)]⟩],false⟩:=fun X w vs hX ha=>by
 match vs,ha with
 | [v,u],ha=>
  refine ((aa3 (Φ:=ph [fun w v=>aT w v b xs,Ni (k:Int),fun w v=>aT w v b (xs.take k),Iw z k]) (p:=0) (q:=1) (x:=2) (x':=3) k ad ad rfl rfl hz) X w [v,u] hX ⟨fun w1 hw=>hp _ _ (ha.1 w1 hw),fun w1 hw=>hq _ _ (ha.2.1 w1 hw),trivial⟩).mono fun e w' ⟨hg,us,he,ho⟩=>⟨hg,us,he,?_⟩
  match us,ho with
  | [u],ho=>
   exact cL ho.1.1 hx fun w1 hw=>⟨ho.1.2 (0,0,2) (List.mem_cons_self ..) w1 hw,ho.1.2 (0,0,3) (List.mem_cons_of_mem _ (List.mem_cons_self ..)) w1 hw⟩
theorem aa4 {z:Int}{t:Rat} (hp:∀w v,Φ p w v->v = .int .i64 z) (hx:Φ x=Dw t 6) (hx1:Φ x1=fun w v=>af w v t.num 6) (hx2:Φ x2=fun w v=>af w v (t.den:Int) 6) (z1 : -9223372036854775808<=z) (z2:z<=9223372036854775807) (ht:aR z y=t) (y1:-9223372036854775808<=y:=by decide) (y2:y<=9223372036854775807:=by decide):aj Φ prog ⟨50,[.fact p,.lit (.ci .i64 y)],[⟨sS,[(0,0,x),(0,2,x1),(2,2,x2)]⟩],false⟩:=
 fk fun _ w v u h0 h1=>by
  obtain rfl:=hp _ _ (get h0)
  obtain rfl:u = .int .i64 y:=h1
  exact (II z y z1 z2 y1 y2 ht).mono fun _ _ h=>ng hx hx1 hx2 h
theorem aa5 {z r:Int} (hp:∀w v,Φ p w v->af w v z i) (hq:∀w v,Φ q w v->af w v y j) (hr:dJ z y=r) (hi:i+j<=1000000:=by omega):aj Φ prog ⟨62,[.fact p,.fact q],[oL (.ci .i64 r)],false⟩:=
 fk fun _ _ _ _ h0 h1=>(aa6 r (hp _ _ (get h0)) (hq _ _ (get h1)) hi hr).mono fun _ _ h=>aa7 h
end
def ym (a:Nat->Bool) (xs:Nat->List Nat) (ez:Nat->Int) (n0 K m N:Nat):List WP:=[fun w v=>Rw 2 (fun ι w v=>aT w v (a ι) (xs ι)) n0 w v,Nz K,Nz m,fun w v=>ah 2 57 (fun ι w v=>KI w v (a ι) ((fun ι=>(xs ι).take m) ι) (ez ι) m) N w v]
def aa8 (a:Nat->Bool) (xs:Nat->List Nat) (ez:Nat->Int) (n0 m:Nat) (j:Nat):List WP:=[Nz j,fun w v=>ah 2 57 (fun ι w v=>KI w v (a ι) ((fun ι=>(xs ι).take m) ι) (ez ι) m) j w v,fun _ _=>True,Nz n0,fun w v=>Ptr 2 (fun w v=>aT w v (a j) (xs j)) w v,fun w v=>aT w v (a j) (xs j),fun w v=>KI w v (a j) ((xs j).take m) (ez j) m,fun w v=>ah 2 57 (fun ι w v=>KI w v (a ι) ((fun ι=>(xs ι).take m) ι) (ez ι) m) (j+1) w v,Nz (j+1),Nz n0]
def IJ:bf:=⟨[0,1,2,6],[(.slot 8,.i),(.slot 7,.s)],[(.one 0,4),(.one 1,.bB [1] 5),(.one 1,.lo 1)],[.closed (.one (.ci .i64 0)),.closed (.one (.nl)),.frm 0],4,[(5,3)]⟩
def IK:List Step:=[bQ [0] [oN 7] (aC 28),bQ [4,7] oT (ak .lss),bQ [4,1] oT (ak .lss),bQ [0,4] [oP 8] (aH 28),bQ [8] [oI 9] (aI 57),.base ⟨41,[9,2],[oI 10],false⟩,.base ⟨0,[5,.row 2 [10]],[oS 11],.loose [] 1 0 (eF 28 28)⟩,bQ [4,.lit (.ci .i64 1)] [oN 12] (ak .add)]
def aa9:List Step:=[bQ [0] [oN 13] (aC 28),bQ [4,13] oF (ak .lss)]
def aba:List Step:=[.loop IJ [(IK,[.frm 12,.frm 11,.frm 0])] aa9]
def abb:List Out:=[oS 0,oN 1,oN 2]
theorem abc {xs:Nat->List Nat} (hn:n0<=9223372036854775807) (hKm:K<=1000000) (hz:∀j,sg (a j) (Proofs.YtomamliepbhegaaGreat.val 4294967296 ((xs j).take m))=ez j) (hN:N=n0:=by omega) (hK:N<=K:=by omega):aj (ph (ym a xs ez n0 K m N)) prog ⟨16,[0,1,2],[oS 3],false⟩:=aV abb [oS 3] aba func16 (by kernel_rfl) (bk (counted N (fun j=>ph (ym a xs ez n0 K m N ++ aa8 a xs ez n0 m j)) (fun _=>0) (fun j p hp=>bm (show p<(ym a xs ez n0 K m N).length from hp)) ⟨fun _=>rfl,fun w=>ah.nil 2 57 (fun ι w v=>KI w v (a ι) ((fun ι=>(xs ι).take m) ι) (ez ι) m) w,aP,trivial⟩ (fun j hj=>by
   skip
   exact ⟨(IK,[.frm 12,.frm 11,.frm 0]),rfl,⟨ad,ad,aP,trivial⟩,(lB (aJ (F:=(fun ι w v=>aT w v (a ι) (xs ι))) underlying28 ad rfl) (lB (bT ad ad) (lB (bT ad ad) (lB (bz (i:=j) (F:=(fun ι w v=>aT w v (a ι) (xs ι))) underlying28 ad ad rfl) (lB (cm (sz:=2) (F:=fun w v=>aT w v (a j) (xs j)) ad (fun _ _ _ g h=>aT.kp h g) (fun _ _ h=>aT.is h) rfl) (lB (IH m ad ad rfl (hz j)) (lB (vh (n:=j) (F:=(fun ι w v=>KI w v (a ι) ((fun ι=>(xs ι).take m) ι) (ez ι) m)) (fun _ _ _ _ g h=>KI.kp h g) ad ad (fun _ _ h=>KI.fQ h) rfl) (lB (ce ad rfl) au))))))))⟩) (lB (aJ (F:=(fun ι w v=>aT w v (a ι) (xs ι))) underlying28 ad rfl) (lB (tlF ad ad) au))
   (fun q hq w v h=>by
    simp only [IJ,List.mem_cons,List.not_mem_nil,or_false] at hq
    rcases hq with rfl
    ·exact (fun h=>h) h)) au)
  (aK [.fact 0 (.one (.s)),.fact 1 (.one (.i)),.fact 2 (.one (.i))] ⟨Rw.Is 2 (fun ι w v=>aT w v (a ι) (xs ι)) n0,fun _ _ h=>h▸fa _,fun _ _ h=>h▸fa _,trivial⟩) (fun _ _ _ h=>h)
def yn (a:Nat->Bool) (xs:Nat->List Nat) (ez:Nat->Int) (n0 K m N:Nat):List WP:=[fun w v=>Rw 2 (fun ι w v=>aT w v (a ι) (xs ι)) n0 w v,Nz K,Nz m,fun w v=>ah 2 57 (fun ι w v=>KI w v (a ι) ((fun ι=>(xs ι).take m) ι) (ez ι) m) N w v]
def abd (a:Nat->Bool) (xs:Nat->List Nat) (ez:Nat->Int) (n0 m:Nat) (j:Nat):List WP:=[Nz j,fun w v=>ah 2 57 (fun ι w v=>KI w v (a ι) ((fun ι=>(xs ι).take m) ι) (ez ι) m) j w v,fun _ _=>True,Nz n0,fun w v=>Ptr 2 (fun w v=>aT w v (a j) (xs j)) w v,fun w v=>aT w v (a j) (xs j),fun w v=>KI w v (a j) ((xs j).take m) (ez j) m,fun w v=>ah 2 57 (fun ι w v=>KI w v (a ι) ((fun ι=>(xs ι).take m) ι) (ez ι) m) (j+1) w v,Nz (j+1),Nz n0]
def IL:bf:=⟨[0,1,2,6],[(.slot 8,.i),(.slot 7,.s)],[(.one 0,4),(.one 1,.bB [1] 5),(.one 1,.lo 1)],[.closed (.one (.ci .i64 0)),.closed (.one (.nl)),.frm 0],4,[(5,3)]⟩
def IM:List Step:=[bQ [0] [oN 7] (aC 28),bQ [4,7] oT (ak .lss),bQ [4,1] oT (ak .lss),bQ [0,4] [oP 8] (aH 28),bQ [8] [oI 9] (aI 57),.base ⟨41,[9,2],[oI 10],false⟩,.base ⟨0,[5,.row 2 [10]],[oS 11],.loose [] 1 0 (eF 28 28)⟩,bQ [4,.lit (.ci .i64 1)] [oN 12] (ak .add)]
def abe:List Step:=[bQ [0] [oN 13] (aC 28),bQ [4,13] oT (ak .lss),bQ [4,1] oF (ak .lss)]
def abf:List Step:=[.loop IL [(IM,[.frm 12,.frm 11,.frm 0])] abe]
def abg:List Out:=[oS 0,oN 1,oN 2]
theorem abh {xs:Nat->List Nat} (_hn:n0<=9223372036854775807) (hKm:K<=1000000) (hz:∀j,sg (a j) (Proofs.YtomamliepbhegaaGreat.val 4294967296 ((xs j).take m))=ez j) (hK:K<n0) (hN:N=K:=by omega):aj (ph (yn a xs ez n0 K m N)) prog ⟨16,[0,1,2],[oS 3],false⟩:=aV abg [oS 3] abf func16 (by kernel_rfl) (bk (counted N (fun j=>ph (yn a xs ez n0 K m N ++ abd a xs ez n0 m j)) (fun _=>0) (fun j p hp=>bm (show p<(yn a xs ez n0 K m N).length from hp)) ⟨fun _=>rfl,fun w=>ah.nil 2 57 (fun ι w v=>KI w v (a ι) ((fun ι=>(xs ι).take m) ι) (ez ι) m) w,aP,trivial⟩ (fun j hj=>by
   skip
   exact ⟨(IM,[.frm 12,.frm 11,.frm 0]),rfl,⟨ad,ad,aP,trivial⟩,(lB (aJ (F:=(fun ι w v=>aT w v (a ι) (xs ι))) underlying28 ad rfl) (lB (bT ad ad) (lB (bT ad ad) (lB (bz (i:=j) (F:=(fun ι w v=>aT w v (a ι) (xs ι))) underlying28 ad ad rfl) (lB (cm (sz:=2) (F:=fun w v=>aT w v (a j) (xs j)) ad (fun _ _ _ g h=>aT.kp h g) (fun _ _ h=>aT.is h) rfl) (lB (IH m ad ad rfl (hz j)) (lB (vh (n:=j) (F:=(fun ι w v=>KI w v (a ι) ((fun ι=>(xs ι).take m) ι) (ez ι) m)) (fun _ _ _ _ g h=>KI.kp h g) ad ad (fun _ _ h=>KI.fQ h) rfl) (lB (ce ad rfl) au))))))))⟩) (lB (aJ (F:=(fun ι w v=>aT w v (a ι) (xs ι))) underlying28 ad rfl) (lB (bT ad ad) (lB (tlF ad ad) au)))
   (fun q hq w v h=>by
    simp only [IL,List.mem_cons,List.not_mem_nil,or_false] at hq
    rcases hq with rfl
    ·exact (fun h=>h) h)) au)
  (aK [.fact 0 (.one (.s)),.fact 1 (.one (.i)),.fact 2 (.one (.i))] ⟨Rw.Is 2 (fun ι w v=>aT w v (a ι) (xs ι)) n0,fun _ _ h=>h▸fa _,fun _ _ h=>h▸fa _,trivial⟩) (fun _ _ _ h=>h)
def yo (q:Nat->Rat) (n0 k:Nat):List WP:=[Rw 4 (Df q k) n0,Nz n0,Nz (tl (fun ι=>(q ι).num) n0),Rw 4 (Df q k) (tl (fun ι=>(q ι).num) n0)]
def abi (q:Nat->Rat) (n0 k:Nat) (j:Nat):List WP:=[Nz (n0-j),Nz (n0-(j+1)),Ptr 4 (Dw (q (n0-(j+1))) k),fun w v=>Ptr 2 (fun w v=>af w v ((q (n0-(j+1))).num) k) w v,fun w v=>af w v ((q (n0-(j+1))).num) k,Nz (n0-(j+1))]
def IN:bf:=⟨[0,2,4,5],[(.slot 3,.i)],[(.one 0,4)],[.frm 1],4,[(4,2)]⟩
def IP:List Step:=[bQ [4,.lit (.ci .i64 0)] oT (ak .gtr),bQ [4,.lit (.ci .i64 1)] [oN 5] (ak .sub),bQ [0,5] [oP 6] (aH 24),bQ [6] [oP 7] (dU 44 0),bQ [7] [oD 8] (aI 42),.base ⟨57,[8],oT,false⟩,bQ [4,.lit (.ci .i64 1)] [oN 9] (ak .sub)]
def abj:List Step:=[bQ [4,.lit (.ci .i64 0)] oF (ak .gtr)]
def abk:List Step:=[bQ [0] [oN 1] (aC 24),.loop IN [(IP,[.frm 9])] abj,bQ [0,2] [oS 3] (ec 24)]
def abl:List Out:=[oS 0]
theorem abm {q:Nat->Rat} (hn:n0<=1000000) (_hk:k<=500000) (ht:(tl (fun ι=>(q ι).num) n0)=0):aj (ph (yo q n0 k)) prog ⟨29,[0],[oS 3],false⟩:=by
 have hle:=aL (fun ι=>(q ι).num) n0
 exact aV abl [oS 3] abk func29 (by kernel_rfl) (lB (aJ (F:=(Df q k)) underlying24 ad rfl) (bk (counted (n0-(tl (fun ι=>(q ι).num) n0)) (fun j=>ph (yo q n0 k ++ abi q n0 k j)) (fun _=>0) (fun j p hp=>bm (show p<(yo q n0 k).length from hp)) ⟨ad,trivial⟩ (fun j hj=>by
   have h0:(q (n0-(j+1))).num=0:=gK (fun ι=>(q ι).num) n0 _ (by omega) (by omega)
   exact ⟨(IP,[.frm 9]),rfl,⟨ad,trivial⟩,(lB (eX ad) (lB (bO ad rfl) (lB (bz (i:=(n0-(j+1))) (F:=(Df q k)) underlying24 ad ad rfl) (lB (ek (off:=0) (len:=2) (sz:=4) (F:=Dw (q (n0-(j+1))) k) (G:=fun w v=>af w v ((q (n0-(j+1))).num) k) ad (fun _ _ h=>al.fst' h) rfl) (lB (cm (sz:=2) (F:=fun w v=>af w v ((q (n0-(j+1))).num) k) ad (fun _ _ _ g h=>af.kp h g) (fun _ _ h=>af.is h) rfl) (lB (kj dD (decide_eq_true h0)) (lB (bO ad rfl) au)))))))⟩)
   (by
   have hle:=aL (fun ι=>(q ι).num) n0
   exact (lB (kC ad) au))
   (fun q hq w v h=>by
    simp only [IN,List.mem_cons,List.not_mem_nil,or_false] at hq
    rcases hq with rfl
    ·exact (fun h=>h.trans (congrArg (Value.int .i64) (by have:=aL (fun ι=>(q ι).num) n0;omega))) h)) (lB (lE (m:=(tl (fun ι=>(q ι).num) n0)) (n:=n0) (F:=(Df q k)) underlying24 ad ad (by first | omega | exact aL _ _) rfl) au)))
  (aK [.fact 0 (.one (.s))] ⟨Rw.Is 4 (Df q k) n0,trivial⟩) bg
def yp (q:Nat->Rat) (n0 k:Nat):List WP:=[Rw 4 (Df q k) n0,Nz n0,Nz (tl (fun ι=>(q ι).num) n0),Rw 4 (Df q k) (tl (fun ι=>(q ι).num) n0)]
def abn (q:Nat->Rat) (n0 k:Nat) (j:Nat):List WP:=[Nz (n0-j),Nz (n0-(j+1)),Ptr 4 (Dw (q (n0-(j+1))) k),fun w v=>Ptr 2 (fun w v=>af w v ((q (n0-(j+1))).num) k) w v,fun w v=>af w v ((q (n0-(j+1))).num) k,Nz (n0-(j+1)),Ni ((((tl (fun ι=>(q ι).num) n0)-1):Nat):Int),Ptr 4 (Dw (q ((tl (fun ι=>(q ι).num) n0)-1)) k),fun w v=>Ptr 2 (fun w v=>af w v ((q ((tl (fun ι=>(q ι).num) n0)-1)).num) k) w v,fun w v=>af w v ((q ((tl (fun ι=>(q ι).num) n0)-1)).num) k]
def IQ:bf:=⟨[0,2,4,5],[(.slot 3,.i)],[(.one 0,4)],[.frm 1],4,[(4,2)]⟩
def IR:List Step:=[bQ [4,.lit (.ci .i64 0)] oT (ak .gtr),bQ [4,.lit (.ci .i64 1)] [oN 5] (ak .sub),bQ [0,5] [oP 6] (aH 24),bQ [6] [oP 7] (dU 44 0),bQ [7] [oD 8] (aI 42),.base ⟨57,[8],oT,false⟩,bQ [4,.lit (.ci .i64 1)] [oN 9] (ak .sub)]
def abo:List Step:=[bQ [4,.lit (.ci .i64 0)] oT (ak .gtr),bQ [4,.lit (.ci .i64 1)] [oN 10] (ak .sub),bQ [0,10] [oP 11] (aH 24),bQ [11] [oP 12] (dU 44 0),bQ [12] [oD 13] (aI 42),.base ⟨57,[13],oF,false⟩]
def abp:List Step:=[bQ [0] [oN 1] (aC 24),.loop IQ [(IR,[.frm 9])] abo,bQ [0,2] [oS 3] (ec 24)]
def abq:List Out:=[oS 0]
theorem abr {q:Nat->Rat} (hn:n0<=1000000) (_hk:k<=500000) (ht:0<(tl (fun ι=>(q ι).num) n0)):aj (ph (yp q n0 k)) prog ⟨29,[0],[oS 3],false⟩:=by
 have hle:=aL (fun ι=>(q ι).num) n0
 exact aV abq [oS 3] abp func29 (by kernel_rfl) (lB (aJ (F:=(Df q k)) underlying24 ad rfl) (bk (counted (n0-(tl (fun ι=>(q ι).num) n0)) (fun j=>ph (yp q n0 k ++ abn q n0 k j)) (fun _=>0) (fun j p hp=>bm (show p<(yp q n0 k).length from hp)) ⟨ad,trivial⟩ (fun j hj=>by
   have h0:(q (n0-(j+1))).num=0:=gK (fun ι=>(q ι).num) n0 _ (by omega) (by omega)
   exact ⟨(IR,[.frm 9]),rfl,⟨ad,trivial⟩,(lB (eX ad) (lB (bO ad rfl) (lB (bz (i:=(n0-(j+1))) (F:=(Df q k)) underlying24 ad ad rfl) (lB (ek (off:=0) (len:=2) (sz:=4) (F:=Dw (q (n0-(j+1))) k) (G:=fun w v=>af w v ((q (n0-(j+1))).num) k) ad (fun _ _ h=>al.fst' h) rfl) (lB (cm (sz:=2) (F:=fun w v=>af w v ((q (n0-(j+1))).num) k) ad (fun _ _ _ g h=>af.kp h g) (fun _ _ h=>af.is h) rfl) (lB (kj dD (decide_eq_true h0)) (lB (bO ad rfl) au)))))))⟩)
   (by
   have hle:=aL (fun ι=>(q ι).num) n0;have hl:=fb (fun ι=>(q ι).num) n0 ht
   exact (lB (eX ad) (lB (bO ad rfl) (lB (bz (i:=((tl (fun ι=>(q ι).num) n0)-1)) (F:=(Df q k)) underlying24 ad ad rfl) (lB (ek (off:=0) (len:=2) (sz:=4) (F:=Dw (q ((tl (fun ι=>(q ι).num) n0)-1)) k) (G:=fun w v=>af w v ((q ((tl (fun ι=>(q ι).num) n0)-1)).num) k) ad (fun _ _ h=>al.fst' h) rfl) (lB (cm (sz:=2) (F:=fun w v=>af w v ((q ((tl (fun ι=>(q ι).num) n0)-1)).num) k) ad (fun _ _ _ g h=>af.kp h g) (fun _ _ h=>af.is h) rfl) (lB (kj dD (decide_eq_false hl)) au)))))))
   (fun q hq w v h=>by
    simp only [IQ,List.mem_cons,List.not_mem_nil,or_false] at hq
    rcases hq with rfl
    ·exact (fun h=>h.trans (congrArg (Value.int .i64) (by have:=aL (fun ι=>(q ι).num) n0;omega))) h)) (lB (lE (m:=(tl (fun ι=>(q ι).num) n0)) (n:=n0) (F:=(Df q k)) underlying24 ad ad (by first | omega | exact aL _ _) rfl) au)))
  (aK [.fact 0 (.one (.s))] ⟨Rw.Is 4 (Df q k) n0,trivial⟩) bg
section
variable {Φ:PH}{p x:Nat}{q:Nat->Rat}
theorem pT (hp:∀w v,Φ p w v->Rw 4 (Df q k) n w v) (hx:Φ x=Rw 4 (Df q k) (tl (fun i=>(q i).num) n)) (hn:n<=1000000:=by omega) (hk:k<=500000:=by omega):aj Φ prog ⟨29,[.fact p],[oS x],false⟩:=by
 rcases Nat.eq_zero_or_pos (tl (fun i=>(q i).num) n) with h | h
 ·exact aW (abm hn hk h) ⟨hp,trivial⟩ ⟨⟨rfl,⟨rfl,rfl,fun _ _ h=>hx▸h⟩,trivial⟩,trivial⟩
 ·exact aW (abr hn hk h) ⟨hp,trivial⟩ ⟨⟨rfl,⟨rfl,rfl,fun _ _ h=>hx▸h⟩,trivial⟩,trivial⟩
end
def yq (z:Nat->Int) (n k:Nat):List WP:=[Rw 2 (If z k) n,Nz n,fun w v=>ah 4 44 (fun ι w v=>al w v (((z ι:Int):Rat)) (k+2+2)) n w v,fun w v=>Rw 4 (fun ι w v=>al w v (((z ι:Int):Rat)) (k+2+2)) (tl (fun ι=>(((z ι:Int):Rat)).num) n) w v]
def abs (z:Nat->Int) (k:Nat) (j:Nat):List WP:=[Nz j,fun w v=>ah 4 44 (fun ι w v=>al w v (((z ι:Int):Rat)) (k+2+2)) j w v,fun _ _=>True,Ptr 2 (Iw (z j) k),Iw (z j) k,fun w v=>af w v (z j) k,fun w v=>af w v (1:Int) 2,Dw (aR (z j) (1:Int)) (k+2+2),fun w v=>af w v ((aR (z j) (1:Int)).num) (k+2+2),fun w v=>af w v ((aR (z j) (1:Int)).den:Int) (k+2+2),fun w v=>ah 4 44 (fun ι w v=>al w v (((z ι:Int):Rat)) (k+2+2)) (j+1) w v,Nz (j+1)]
def IS:bf:=⟨[0,2,5,6],[(.slot 7,.i),(.slot 3,.s)],[(.one 0,4),(.one 1,.bB [1] 5),(.one 1,.lo 1)],[.closed (.one (.ci .i64 0)),.closed (.one (.nl)),.frm 0],4,[(5,2)]⟩
def IT:List Step:=[bQ [4,1] oT (ak .lss),bQ [0,4] [oP 7] (aH 28),bQ [7] [oI 8] (aI 57),.base ⟨39,[8],[oD 9],false⟩,.base ⟨40,[.lit (.ci .i64 1)],[oD 10],false⟩,.base ⟨38,[9,10],[⟨.agg [.s,.b,.s,.b],[(0,0,11),(0,2,12),(2,2,13)]⟩],false⟩,.base ⟨0,[5,.row 4 [11]],[oS 14],.loose [] 1 0 (eF 24 24)⟩,bQ [4,.lit (.ci .i64 1)] [oN 15] (ak .add)]
def abt:List Step:=[bQ [4,1] oF (ak .lss)]
def abu:List Step:=[bQ [0] [oN 1] (aC 28),.loop IS [(IT,[.frm 15,.frm 14,.frm 0])] abt,.base ⟨29,[2],[oS 3],.cC [1] false⟩]
def abv:List Out:=[oS 0]
theorem abw  (hn:n<=1000000) (hk:k<=50000):aj (ph (yq z n k)) prog ⟨15,[0],[oS 3],false⟩:=aV abv [oS 3] abu func15 (by kernel_rfl) (lB (aJ (F:=(If z k)) underlying28 ad rfl) (bk (counted n (fun j=>ph (yq z n k ++ abs z k j)) (fun _=>0) (fun j p hp=>bm (show p<(yq z n k).length from hp)) ⟨fun _=>rfl,fun w=>ah.nil 4 44 (fun ι w v=>al w v (((z ι:Int):Rat)) (k+2+2)) w,aP,trivial⟩ (fun j hj=>by
   skip
   exact ⟨(IT,[.frm 15,.frm 14,.frm 0]),rfl,⟨ad,ad,aP,trivial⟩,(lB (bT ad ad) (lB (bz (i:=j) (F:=(If z k)) underlying28 ad ad rfl) (lB (cm (sz:=2) (F:=Iw (z j) k) ad (fun _ _ _ g h=>aE.kp h g) (fun _ _ h=>aE.is h) rfl) (lB (abx iI rfl rfl) (lB (og (z:=1) rfl rfl) (lB (kH dD dD rfl rfl rfl rfl) (lB (pS (n:=j) (F:=(fun ι w v=>al w v (((z ι:Int):Rat)) (k+2+2))) (fun _ _ _ _ g h=>al.kp h g) ad (fun _ _ h=>h.eq (jH _)) (fun _ _ h=>al.fQ h) rfl) (lB (ce ad rfl) au))))))))⟩) (lB (tlF ad ad) au)
   (fun q hq w v h=>by
    simp only [IS,List.mem_cons,List.not_mem_nil,or_false] at hq
    rcases hq with rfl
    ·exact (fun h=>h) h)) (lB (cS [1] (pT (q:=(fun ι=>((z ι:Int):Rat))) (n:=n) (k:=(k+2+2)) (fun _ _ h=>ah.rw h) rfl)) au)))
  (aK [.fact 0 (.one (.s))] ⟨Rw.Is 2 (If z k) n,trivial⟩) bg
def yr (z:Nat->Int) (n:Nat):List WP:=[fun w v=>Rw 1 (fun i _ v=>v = .agg #[.int .i64 (z i)]) n w v,Nz n,fun w v=>ah 4 44 (fun ι w v=>al w v (((z ι:Int):Rat)) 6) n w v,fun w v=>Rw 4 (fun ι w v=>al w v (((z ι:Int):Rat)) 6) (tl (fun ι=>(((z ι:Int):Rat)).num) n) w v]
def aby (z:Nat->Int) (j:Nat):List WP:=[Nz j,fun w v=>ah 4 44 (fun ι w v=>al w v (((z ι:Int):Rat)) 6) j w v,fun _ _=>True,fun w v=>Ptr 1 (fun _ v=>v = .agg #[.int .i64 (z j)]) w v,Ni (z j),Dw (aR (z j) 1) 6,fun w v=>af w v ((aR (z j) 1).num) 6,fun w v=>af w v ((aR (z j) 1).den:Int) 6,fun w v=>ah 4 44 (fun ι w v=>al w v (((z ι:Int):Rat)) 6) (j+1) w v,Nz (j+1)]
def IU:bf:=⟨[0,2,5,6],[(.slot 7,.i),(.slot 3,.s)],[(.one 0,4),(.one 1,.bB [1] 5),(.one 1,.lo 1)],[.closed (.one (.ci .i64 0)),.closed (.one (.nl)),.frm 0],4,[(5,2)]⟩
def IV:List Step:=[bQ [4,1] oT (ak .lss),bQ [0,4] [oP 7] (aH 22),bQ [7] [oN 8] (aI 3),.base ⟨50,[8,.lit (.ci .i64 1)],[⟨.agg [.s,.b,.s,.b],[(0,0,9),(0,2,10),(2,2,11)]⟩],false⟩,.base ⟨0,[5,.row 4 [9]],[oS 12],.loose [] 1 0 (eF 24 24)⟩,bQ [4,.lit (.ci .i64 1)] [oN 13] (ak .add)]
def abz:List Step:=[bQ [4,1] oF (ak .lss)]
def abA:List Step:=[bQ [0] [oN 1] (aC 22),.loop IU [(IV,[.frm 13,.frm 12,.frm 0])] abz,.base ⟨29,[2],[oS 3],.cC [1] false⟩]
def abB:List Out:=[oS 0]
theorem rof  (hn:n<=1000000) (hz:∀i,-9223372036854775808<=z i∧z i<=9223372036854775807):aj (ph (yr z n)) prog ⟨22,[0],[oS 3],false⟩:=aV abB [oS 3] abA func22 (by kernel_rfl) (lB (aJ (F:=(fun i _ v=>v = .agg #[.int .i64 (z i)])) underlying22 ad rfl) (bk (counted n (fun j=>ph (yr z n ++ aby z j)) (fun _=>0) (fun j p hp=>bm (show p<(yr z n).length from hp)) ⟨fun _=>rfl,fun w=>ah.nil 4 44 (fun ι w v=>al w v (((z ι:Int):Rat)) 6) w,aP,trivial⟩ (fun j hj=>by
   skip
   exact ⟨(IV,[.frm 13,.frm 12,.frm 0]),rfl,⟨ad,ad,aP,trivial⟩,(lB (bT ad ad) (lB (bz (i:=j) (F:=(fun i _ v=>v = .agg #[.int .i64 (z i)])) underlying22 ad ad rfl) (lB (HJ ad rfl) (lB (aa4 (y:=1) ad rfl rfl rfl (by have:=hz j;omega) (by have:=hz j;omega) rfl) (lB (pS (n:=j) (F:=(fun ι w v=>al w v (((z ι:Int):Rat)) 6)) (fun _ _ _ _ g h=>al.kp h g) ad (fun _ _ h=>h.eq (jH _)) (fun _ _ h=>al.fQ h) rfl) (lB (ce ad rfl) au))))))⟩) (lB (tlF ad ad) au)
   (fun q hq w v h=>by
    simp only [IU,List.mem_cons,List.not_mem_nil,or_false] at hq
    rcases hq with rfl
    ·exact (fun h=>h) h)) (lB (cS [1] (pT (q:=(fun ι=>((z ι:Int):Rat))) (n:=n) (k:=6) (fun _ _ h=>ah.rw h) rfl)) au)))
  (aK [.fact 0 (.one (.s))] ⟨Rw.Is 1 (fun i _ v=>v = .agg #[.int .i64 (z i)]) n,trivial⟩) bg
def yu (z:Nat->Int) (n k kq:Nat):List WP:=[fun w v=>Rw 4 (fun ι w v=>al w v (((z ι:Int):Rat)) kq) n w v,Rw 2 (Nf z k) n,Nz n,Nz n,Nz n]
def abC (z:Nat->Int) (k kq:Nat) (j:Nat):List WP:=[Nz j,Ptr 4 (Dw (((z j:Int):Rat)) kq),fun w v=>Ptr 2 (fun w v=>af w v ((((z j:Int):Rat)).num) kq) w v,fun w v=>af w v ((((z j:Int):Rat)).num) kq,Ptr 2 (Nw (z j) k),Nw (z j) k,Ptr 4 (Dw (((z j:Int):Rat)) kq),fun w v=>Ptr 2 (fun w v=>af w v ((((z j:Int):Rat)).den:Int) kq) w v,fun w v=>af w v ((((z j:Int):Rat)).den:Int) kq,fun w v=>af w v (1:Int) 2,Nz (j+1)]
def abD:bf:=⟨[0,1,4,6,7,8,9,10,11,12],[(.slot 13,.i)],[(.one 0,5)],[.closed (.one (.ci .i64 0))],5,[]⟩
def IW:List Step:=[bQ [5,4] oT (ak .lss),bQ [0,5] [oP 6] (aH 24),bQ [6] [oP 7] (dU 44 0),bQ [7] [oD 8] (aI 42),bQ [1,5] [oP 9] (aH 28),bQ [9] [oI 10] (aI 57),.base ⟨61,[8,10],oT,false⟩,bQ [0,5] [oP 11] (aH 24),bQ [11] [oP 12] (dU 44 1),bQ [12] [oD 13] (aI 42),.base ⟨40,[.lit (.ci .i64 1)],[oD 14],false⟩,.base ⟨62,[13,14],[oL (.ci .i64 0)],false⟩,bQ [5,.lit (.ci .i64 1)] [oN 15] (ak .add)]
def abE:List Step:=[bQ [5,4] oF (ak .lss)]
def abF:List Step:=[bQ [0] [oN 2] (aC 24),bQ [1] [oN 3] (aC 28),bQ [2,3] oF (ak .neq),bQ [0] [oN 4] (aC 24),.loop abD [(IW,[.frm 15])] abE]
def abG:List Out:=[oS 0,oS 1]
theorem abH {kq:Nat} (hn:n<=1000000) (hkq:kq<=500000) (_hk:k<=500000):aj (ph (yu z n k kq)) prog ⟨32,[0,1],oT,false⟩:=aV abG oT abF func32 (by kernel_rfl) (lB (aJ (F:=(fun ι w v=>al w v (((z ι:Int):Rat)) kq)) underlying24 ad rfl) (lB (aJ (F:=(Nf z k)) underlying28 ad rfl) (lB (jY (op:=.neq) ad ad (cY (decide_eq_false (fun h=>h rfl)) (by simp))) (lB (aJ (F:=(fun ι w v=>al w v (((z ι:Int):Rat)) kq)) underlying24 ad rfl) (bk (counted n (fun j=>ph (yu z n k kq ++ abC z k kq j)) (fun _=>0) (fun j p hp=>bm (show p<(yu z n k kq).length from hp)) ⟨fun _=>rfl,trivial⟩ (fun j hj=>by
   skip
   exact ⟨(IW,[.frm 15]),rfl,⟨ad,trivial⟩,(lB (bT ad ad) (lB (bz (i:=j) (F:=(fun ι w v=>al w v (((z ι:Int):Rat)) kq)) underlying24 ad ad rfl) (lB (ek (off:=0) (len:=2) (sz:=4) (F:=Dw (((z j:Int):Rat)) kq) (G:=fun w v=>af w v ((((z j:Int):Rat)).num) kq) ad (fun _ _ h=>al.fst' h) rfl) (lB (cm (sz:=2) (F:=fun w v=>af w v ((((z j:Int):Rat)).num) kq) ad (fun _ _ _ g h=>af.kp h g) (fun _ _ h=>af.is h) rfl) (lB (bz (i:=j) (F:=(Nf z k)) underlying28 ad ad rfl) (lB (cm (sz:=2) (F:=Nw (z j) k) ad (fun _ _ _ g h=>ai.kp h g) (fun _ _ h=>ai.is h) rfl) (lB (abI dD nN rfl rfl) (lB (bz (i:=j) (F:=(fun ι w v=>al w v (((z ι:Int):Rat)) kq)) underlying24 ad ad rfl) (lB (ek (off:=2) (len:=2) (sz:=4) (F:=Dw (((z j:Int):Rat)) kq) (G:=fun w v=>af w v ((((z j:Int):Rat)).den:Int) kq) ad (fun _ _ h=>al.snd' h) rfl) (lB (cm (sz:=2) (F:=fun w v=>af w v ((((z j:Int):Rat)).den:Int) kq) ad (fun _ _ _ g h=>af.kp h g) (fun _ _ h=>af.is h) rfl) (lB (og (z:=1) rfl rfl) (lB (aa5 dD dD (aa2 _)) (lB (ce ad rfl) au)))))))))))))⟩) (lB (tlF ad ad) au)
   (fun q hq=>by cases hq)) au)))))
  (aK [.fact 0 (.one (.s)),.fact 1 (.one (.s))] ⟨Rw.Is 4 (fun ι w v=>al w v (((z ι:Int):Rat)) kq) n,Rw.Is 2 (Nf z k) n,trivial⟩) bg
section
variable {Φ:PH}{p q x kq:Nat}
theorem Zh (hp:∀w v,Φ p w v->Rw 4 (fun i w v=>al w v ((z i:Int):Rat) kq) n w v) (hq:∀w v,Φ q w v->Rw 2 (Nf z k) n w v) (hn:n<=1000000:=by omega) (hkq:kq<=500000:=by omega) (hk:k<=500000:=by omega):aj Φ prog ⟨32,[.fact p,.fact q],oT,false⟩:=
 aW (abH hn hkq hk) ⟨hp,hq,trivial⟩ ⟨⟨rfl,trivial⟩,trivial⟩
end
section
variable {Φ:PH}{p q r x kq:Nat}
theorem IX  (hL:aG (mk n z)=L) (h:Rw 4 (fun i w v=>al w v ((z i:Int):Rat) k) (tl z n) w v):Rw 4 (fun i w v=>al w v ((ae L i:Int):Rat) k) L.length w v:=by
 subst hL
 exact Rw.len (Rw.to h fun i w v hi h=>by show al w v ((ae _ i:Int):Rat) k;rw [<- IG (Nat.lt_of_lt_of_le hi (aL _ _)),gx (Nat.lt_of_lt_of_le hi (aL _ _))];exact h) (by rw [iE])
theorem ou  (hp:∀w v,Φ p w v->Rw 2 (If z k) n w v) (hx:Φ x=fun w v=>Rw 4 (fun i w v=>al w v ((ae L i:Int):Rat) (k+2+2)) L.length w v) (hL:aG (mk n z)=L) (hn:n<=1000000:=by omega) (hk:k<=50000:=by omega):aj Φ prog ⟨15,[.fact p],[oS x],false⟩:=
 aW (abw hn hk) ⟨hp,trivial⟩ ⟨⟨rfl,⟨rfl,rfl,fun _ _ h=>hx▸IX hL h⟩,trivial⟩,trivial⟩
theorem HH  (hp:∀w v,Φ p w v->Rw 1 (fun i _ v=>v = .agg #[.int .i64 (z i)]) n w v) (hx:Φ x=fun w v=>Rw 4 (fun i w v=>al w v ((ae L i:Int):Rat) 6) L.length w v) (hz:∀i,-9223372036854775808<=z i∧z i<=9223372036854775807) (hn:n<=1000000:=by omega) (hL:aG (mk n z)=L:=by decide):aj Φ prog ⟨22,[.fact p],[oS x],false⟩:=
 aW (rof hn hz) ⟨hp,trivial⟩ ⟨⟨rfl,⟨rfl,rfl,fun _ _ h=>hx▸IX hL h⟩,trivial⟩,trivial⟩
theorem ot {xs:Nat->List Nat} (K m:Nat) (hp:∀w v,Φ p w v->Rw 2 (fun i w v=>aT w v (a i) (xs i)) n0 w v) (hq:∀w v,Φ q w v->v = .int .i64 (K:Int)) (hr:∀w v,Φ r w v->v = .int .i64 (m:Int)) (hx:Φ x=fun w v=>Rw 2 (fun i w v=>KI w v (a i) ((xs i).take m) (z i) m) n w v) (hz:∀j,sg (a j) (Proofs.YtomamliepbhegaaGreat.val 4294967296 ((xs j).take m))=z j) (hN:min n0 K=n) (hn:n0<=9223372036854775807:=by omega) (hKm:K<=1000000:=by omega) :
  aj Φ prog ⟨16,[.fact p,.fact q,.fact r],[oS x],false⟩:=by
 rcases Nat.lt_or_ge K n0 with h | h
 ·exact aW (abh (N:=n) hn hKm hz h) ⟨hp,hq,hr,trivial⟩ ⟨⟨rfl,⟨rfl,rfl,fun _ _ h=>hx▸ah.rw (e:=57) h⟩,trivial⟩,trivial⟩
 ·exact aW (abc (N:=n) hn hKm hz) ⟨hp,hq,hr,trivial⟩ ⟨⟨rfl,⟨rfl,rfl,fun _ _ h=>hx▸ah.rw (e:=57) h⟩,trivial⟩,trivial⟩
end
end Go.Proofs.YtomamliepbhegaaGreat.Sym
