/- Odd -/
import Derived.Test.YtomamliepbhegaaGreatModM
import Derived.Test.YtomamliepbhegaaGreatPolZ
import Derived.Test.YtomamliepbhegaaGreatDivW
set_option maxRecDepth 100000
namespace Go.Proofs.YtomamliepbhegaaGreat.Sym
open Go.Proofs.Tryz
open Go.RowKit
variable {K k m n u v:Nat}{A C L:List Int}{f:Nat->Int}{s t:(Nat->Int)×Nat}
theorem GV (j:Nat):Int.tmod ((j:Nat):Int) 2=((j % 2:Nat):Int):=rfl
section
variable {Φ:PH}{p q x n2 j kF:Nat}{Fz:Nat->kh}{w:World}{v:Value}
theorem YO (h:j % 2=0) (r:Rw 2 (If ((Fz j).1) kF) (Fz j).2 w v):Rw 2 (fun i w v=>aE w v ((fun i=>(Fz (2*i)).1) ((j+1) / 2) i) kF) ((fun i=>(Fz (2*i)).2) ((j+1) / 2)) w v:=by
 have e:2*((j+1) / 2)=j:=by omega
 show Rw 2 (fun i w v=>aE w v ((Fz (2*((j+1) / 2))).1 i) kF) (Fz (2*((j+1) / 2))).2 w v
 rw [e]
 exact r
theorem YP (w:World):dY 28 (fun i=>(Fz (2*i)).1) (fun i=>(Fz (2*i)).2) kF ((0+1) / 2) w (.slice none 0 0):=dY.nil 28 _ _ kF w
theorem YQ (hj:¬j % 2=0) (h:dY 28 (fun i=>(Fz (2*i)).1) (fun i=>(Fz (2*i)).2) kF ((j+1) / 2) w v):dY 28 (fun i=>(Fz (2*i)).1) (fun i=>(Fz (2*i)).2) kF ((j+1+1) / 2) w v:=by
 rw [show (j+1+1) / 2=(j+1) / 2 by omega]
 exact h
theorem YR {zz:Nat->Nat->Int}{ln:Nat->Nat} (hp:∀w v,Φ p w v->dY 28 zz ln k n w v) (hq:∀w v,Φ q w v->bS zz ln k n w v) (hx:Φ x=dY 28 zz ln k n2) (hn:n<=1000000:=by omega) (h2:n+1=n2:=by omega) :
  aj Φ prog ⟨0,[.fact p,.row 1 [q]],[oS x],.loose [] j 0 (eF 59 59)⟩:=by
 subst h2
 exact GU hp hq hn hx
end
def xV (a:Nat->Int) (n m k kF c:Nat) (Fz:Nat->kh) (L:List Int):List WP:=[Rw 2 (If a k) n,Nw (dc a n) k,Rw 1 (bS (fun i=>(Fz i).1) (fun i=>(Fz i).2) kF) m,Nz m,dY 28 (fun i=>(Fz (2*i)).1) (fun i=>(Fz (2*i)).2) kF ((m+1) / 2),Rw 2 (Nf (ae L) (2+((m+1) / 2)*(kF+c+1))) L.length]
def YS (kF:Nat) (Fz:Nat->kh) (j:Nat):List WP:=[Nz j,dY 28 (fun i=>(Fz (2*i)).1) (fun i=>(Fz (2*i)).2) kF ((j+1) / 2),fun _ _=>True,fun w v=>Ptr 1 (fun w v=>∃s,v = .agg #[s]∧Rw 2 (If ((fun i=>(Fz i).1) j) kF) ((fun i=>(Fz i).2) j) w s) w v,Rw 2 (If ((fun i=>(Fz i).1) j) kF) ((fun i=>(Fz i).2) j),Ni (Int.tmod ((j:Nat):Int) 2),bS (fun i=>(Fz (2*i)).1) (fun i=>(Fz (2*i)).2) kF ((j+1) / 2),dY 28 (fun i=>(Fz (2*i)).1) (fun i=>(Fz (2*i)).2) kF ((j+1+1) / 2),Nz (j+1),fun w v=>Ptr 1 (fun w v=>∃s,v = .agg #[s]∧Rw 2 (If ((fun i=>(Fz i).1) j) kF) ((fun i=>(Fz i).2) j) w s) w v,Rw 2 (If ((fun i=>(Fz i).1) j) kF) ((fun i=>(Fz i).2) j),Ni (Int.tmod ((j:Nat):Int) 2),Nz (j+1)]
def GW:bf:=⟨[0,2,6,7,8,9,10,11],[(.slot 12,.i),(.slot 3,.s)],[(.one 0,6),(.one 1,.bB [1] 7),(.one 1,.lo 1)],[.closed (.one (.ci .i64 0)),.closed (.one (.nl)),.frm 0],6,[(7,4)]⟩
def GX:List Step:=[bQ [6,3] oT (ak .lss),bQ [2,6] [oP 9] (aH 59),bQ [9] [oS 10] (aI 28),bQ [6,.lit (.ci .i64 2)] [oN 11] (tI),bQ [11,.lit (.ci .i64 0)] oT (ak .eql),.derive (.agg [.s 14 0]) (.agg [.s]) [(0,1,10)] 12,.base ⟨0,[7,.row 1 [12]],[oS 13],.loose [] 1 0 (eF 59 59)⟩,bQ [6,.lit (.ci .i64 1)] [oN 14] (ak .add)]
def GY:List Step:=[bQ [6,3] oT (ak .lss),bQ [2,6] [oP 15] (aH 59),bQ [15] [oS 16] (aI 28),bQ [6,.lit (.ci .i64 2)] [oN 17] (tI),bQ [17,.lit (.ci .i64 0)] oF (ak .eql),bQ [6,.lit (.ci .i64 1)] [oN 18] (ak .add)]
def YT:List Step:=[bQ [6,3] oF (ak .lss)]
def YU:List Step:=[.base ⟨64,[0],[oI 1],false⟩,.base ⟨68,[1],oF,false⟩,.base ⟨69,[0],[oS 2],false⟩,bQ [2] [oN 3] (aC 59),.loop GW [(GX,[.frm 14,.frm 13,.frm 0]),(GY,[.frm 18,.frm 7,.frm 0])] YT,.base ⟨36,[4],[oS 5],.cC [1] false⟩]
def YV:List Out:=[oS 0]
theorem YW {a:Nat->Int}{k3 kL kR kQ kF c:Nat}{Lf Qf:Nat->Nat->Int}{lL lQ:Nat->Nat}{RL:Nat->List Int}{Fz:Nat->kh}{G:kh}{Q0:Nat->Int}{l0:Nat} (H:nf a n m k k3 kL kR kQ kF Lf Qf lL lQ RL Fz G Q0 l0) (hld:dc a n≠0) (hm2:m<=200) (hc:c<=100) (hcL:∀j,j<(m+1) / 2->(eu (fun i=>(Fz (2*i)).1) (fun i=>(Fz (2*i)).2) j).length<=c) (hL:eu (fun i=>(Fz (2*i)).1) (fun i=>(Fz (2*i)).2) ((m+1) / 2)=L):aj (ph (xV a n m k kF c Fz L)) prog ⟨37,[0],[oS 5],false⟩:=by
 have hk:=H.hk;have hkF:=H.hkF;have hnn:=H.base.hn
 exact aV YV [oS 5] YU func37 (by kernel_rfl) (lB (kD (z:=a) (n:=n) (Rw.To 2 (If a k) n (fun _ _ _ _ h=>h)) rfl (by omega) (by omega) (rfl)) (lB (YX nN (decide_eq_false hld)) (lB (YN (Rw.To 2 (If a k) n (fun _ _ _ _ h=>h)) rfl H) (lB (aJ (F:=(bS (fun i=>(Fz i).1) (fun i=>(Fz i).2) kF)) underlying59 ad rfl) (bk (counted m (fun j=>ph (xV a n m k kF c Fz L ++ YS kF Fz j)) (fun j=>if j % 2=0 then 0 else 1) (fun j p hp=>bm (show p<(xV a n m k kF c Fz L).length from hp)) ⟨fun _=>rfl,fun w=>YP w,aP,trivial⟩ (fun j hj=>by
   skip
   by_cases hcj:j % 2=0
   ·skip
    exact ⟨(GX,[.frm 14,.frm 13,.frm 0]),by rw [if_pos hcj];rfl,⟨ad,ad,aP,trivial⟩,(lB (bT ad ad) (lB (bz (i:=j) (F:=(bS (fun i=>(Fz i).1) (fun i=>(Fz i).2) kF)) underlying59 ad ad rfl) (lB (nV ad (fun _ _ h=>tF h) rfl) (lB (GZ ad (by decide) rfl) (lB (dp (op:=.eql) ad (cY (decide_eq_true (by rw [GV];omega)) (by simp))) (ej (GP (zz:=(fun i=>(Fz (2*i)).1)) (ln:=(fun i=>(Fz (2*i)).2)) (k:=kF) (n:=(j+1) / 2) rfl (fun _ _ h=>YO hcj h)) (lB (YR (n:=(j+1) / 2) (k:=kF) (zz:=(fun i=>(Fz (2*i)).1)) (ln:=(fun i=>(Fz (2*i)).2)) ad ad rfl) (lB (ce ad rfl) au))))))))⟩
   ·skip
    exact ⟨(GY,[.frm 18,.frm 7,.frm 0]),by rw [if_neg hcj];rfl,⟨ad,fun _ _ h=>YQ hcj h,aP,trivial⟩,(lB (bT ad ad) (lB (bz (i:=j) (F:=(bS (fun i=>(Fz i).1) (fun i=>(Fz i).2) kF)) underlying59 ad ad rfl) (lB (nV ad (fun _ _ h=>tF h) rfl) (lB (GZ ad (by decide) rfl) (lB (dp (op:=.eql) ad (cY (decide_eq_false (by rw [GV];omega)) (by simp))) (lB (ce ad rfl) au))))))⟩
) (lB (tlF ad ad) au)
   (fun q hq w v h=>by
    simp only [GW,List.mem_cons,List.not_mem_nil,or_false] at hq
    rcases hq with rfl
    ·exact (fun h=>h) h)) (lB (cS [1] (Hf (zz:=(fun i=>(Fz (2*i)).1)) (ln:=(fun i=>(Fz (2*i)).2)) (n:=(m+1) / 2) (k:=kF) (c:=c) (fun _ _ h=>dY.rw h) rfl (Nat.le_trans (Nat.mul_le_mul (show (m+1) / 2<=101 by omega) (show kF+c+1<=201 by omega)) (by omega)) (fun i hi=>Nat.le_trans (H.rd (2*i) (by omega)).hFl (by omega)) hcL hL)) au))))))
  (aK [.fact 0 (.one (.s))] ⟨Rw.Is 2 (If a k) n,trivial⟩) bg
section
variable {Φ:PH}{p x k3 kL kR kQ kF l0 c:Nat}{a Q0:Nat->Int}{Lf Qf:Nat->Nat->Int}{lL lQ:Nat->Nat}{RL:Nat->List Int}{Fz:Nat->(Nat->Int)×Nat}{G:(Nat->Int)×Nat}
theorem Hi (hp:∀w v,Φ p w v->Rw 2 (If a k) n w v) (hx:Φ x=Rw 2 (Nf (ae L) (2+((m+1) / 2)*(kF+c+1))) L.length) (H:nf a n m k k3 kL kR kQ kF Lf Qf lL lQ RL Fz G Q0 l0) (hld:dc a n≠0)
  (hcL:∀j,j<(m+1) / 2->(eu (fun i=>(Fz (2*i)).1) (fun i=>(Fz (2*i)).2) j).length<=c) (hL:eu (fun i=>(Fz (2*i)).1) (fun i=>(Fz (2*i)).2) ((m+1) / 2)=L) (hm2:m<=200:=by omega) (hc:c<=100:=by omega) :
  aj Φ prog ⟨37,[.fact p],[oS x],false⟩:=
 aW (YW H hld hm2 hc hcL hL) ⟨hp,trivial⟩ ⟨⟨rfl,⟨rfl,rfl,fun _ _ h=>hx▸h⟩,trivial⟩,trivial⟩
end
theorem qP  (h0:∀i,n<=i->f i=0) (h:∀i,i<n->(f i).natAbs<4294967296) (hk:1<=k) (i:Nat):Bd (f i).natAbs k:=by
 refine Bd.more (i:=1) ?_ hk
 show _<4294967296 ^ 1
 rcases Nat.lt_or_ge i n with h1 | h1
 ·have:=h i h1;omega
 ·rw [h0 i h1];decide
theorem Hj  (h0:∀i,n<=i->f i=0) (h:∀i,i<n->(f i).natAbs<=K) (i:Nat):(f i).natAbs<=K:=by
 rcases Nat.lt_or_ge i n with h1 | h1
 ·exact h i h1
 ·rw [h0 i h1];exact Nat.zero_le _
theorem Hp  (hs:Vz s) (ht:Vz t) (h1:(cmn s t).2=L.length) (h2:∀i,i<L.length->(cmn s t).1 i=ae L i):cmn s t=(ae L,L.length):=by
 refine Prod.ext (funext fun i=>?_) h1
 rcases Nat.lt_or_ge i L.length with h | h
 ·exact h2 i h
 ·rw [(tE hs ht).1 i (by omega)]
  exact (ep h).symm
theorem jf {B:List Int}{N:Nat} (h0:∀i,N<=i->f i=0) (hl:B.length+C.length<=N) (h:∀i,i<N->f i=conv (ae B) (ae C) i) (i:Nat):f i=conv (ae B) (ae C) i:=by
 rcases Nat.lt_or_ge i N with h1 | h1
 ·exact h i h1
 ·rw [h0 i h1,je (a:=B.length) (b:=C.length) (fun i hi=>ep hi) (fun i hi=>ep hi)]
theorem Hz {ka kb:Nat} (hs:Vz s) (ht:Vz t)
  (h:s.2<=100∧t.2<=100∧(∀i,i<s.2->(s.1 i).natAbs<=K)∧(∀i,i<t.2->(t.1 i).natAbs<=K) ∧ 
   K+(2*(s.2+t.2)*K) ^ (s.2+t.2)<2147000000 ^ (u+1)∧2*(K*(K+(2*(s.2+t.2)*K) ^ (s.2+t.2)))+1<=2147000000 ^ v∧0<v∧v+u+v<256) (hk:1<=ka∧ka<=100∧1<=kb∧kb<=100:=by omega) (hK:K<4294967296:=by omega):gi s t ka kb:=by
 obtain ⟨h1,h2,h3,h4,h6,h7,h8,h9⟩:=h
 exact ⟨by omega,by omega,fun _ _=>⟨hk.2.1,hk.2.2.2,by omega,qP hs.1 (fun i hi=>Nat.lt_of_le_of_lt (h3 i hi) hK) hk.1,qP ht.1 (fun i hi=>Nat.lt_of_le_of_lt (h4 i hi) hK) hk.2.2.1,K,u,v,Hj hs.1 h3,Hj ht.1 h4,h6,h7,h8,h9⟩⟩
theorem xW {i:Nat} (h:A.length-1<=i):drv (ae A) i=0:=by
 rw [drv,ep (by omega),Int.mul_zero]
theorem HF {Q:List Int}{LL QQ RR FF:Nat->List Int} (hK:K<1000000) (hm:m<=50)
  (h1:A.length<=10∧C.length<=10∧Q.length<=10∧(LL 0).length+C.length<=20∧tl (ae A) A.length=A.length∧(∀x,x ∈ A->x.natAbs<100000000)∧tl (drv (ae A)) (A.length-1)=A.length-1∧0<C.length∧(∀x,x ∈ C->x.natAbs<4294967296)∧(∀x,x ∈ Q->x.natAbs<4294967296))
  (h2:(cmn (pri (ae A) A.length) (pri (drv (ae A)) (A.length-1))).2=C.length∧∀i,i<C.length->(cmn (pri (ae A) A.length) (pri (drv (ae A)) (A.length-1))).1 i=ae C i)
  (h3:∀i,i<(pri (ae A) A.length).2->((pri (ae A) A.length).1 i).natAbs<4294967296)
  (h4:(pri (ae A) A.length).2<=100∧(pri (drv (ae A)) (A.length-1)).2<=100∧(∀i,i<(pri (ae A) A.length).2->((pri (ae A) A.length).1 i).natAbs<=K)∧(∀i,i<(pri (drv (ae A)) (A.length-1)).2->((pri (drv (ae A)) (A.length-1)).1 i).natAbs<=K) ∧ 
   K+(2*((pri (ae A) A.length).2+(pri (drv (ae A)) (A.length-1)).2)*K) ^ ((pri (ae A) A.length).2+(pri (drv (ae A)) (A.length-1)).2)<2147000000 ^ (u+1)∧2*(K*(K+(2*((pri (ae A) A.length).2+(pri (drv (ae A)) (A.length-1)).2)*K) ^ ((pri (ae A) A.length).2+(pri (drv (ae A)) (A.length-1)).2)))+1<=2147000000 ^ v∧0<v∧v+u+v<256)
  (h5:A.length+1-C.length=(LL 0).length∧A.length-1+1-C.length=Q.length∧(∀i,i<20->ae A i=conv (ae (LL 0)) (ae C) i)∧(∀i,i<20->drv (ae A) i=conv (ae Q) (ae C) i))
  (h6:aG (mk (max Q.length ((LL 0).length-1)) fun i=>upto Q.length (ae Q) i-upto ((LL 0).length-1) (drv (ae (LL 0))) i)=RR 0)
  (h7:∀j,j<m+1->(LL j).length<=10∧(RR j).length<=10∧(∀x,x ∈ LL j->x.natAbs<4294967296)∧(∀x,x ∈ RR j->x.natAbs<4294967296)∧tl (ae (LL j)) (LL j).length=(LL j).length∧tl (ae (RR j)) (RR j).length=(RR j).length)
  (h8:∀j,j<m->2<=(LL j).length∧0<(FF j).length∧(FF j).length<=10∧(QQ j).length<=10∧(∀x,x ∈ FF j->x.natAbs<4294967296)∧(∀x,x ∈ QQ j->x.natAbs<4294967296)∧(LL j).length+1-(FF j).length=(LL (j+1)).length∧(RR j).length+1-(FF j).length=(QQ j).length)
  (h9:∀j,j<m->(cmn (pri (ae (LL j)) (LL j).length) (pri (ae (RR j)) (RR j).length)).2=(FF j).length∧∀i,i<(FF j).length->(cmn (pri (ae (LL j)) (LL j).length) (pri (ae (RR j)) (RR j).length)).1 i=ae (FF j) i)
  (h10:∀j,j<m->∀i,i<(pri (ae (LL j)) (LL j).length).2->((pri (ae (LL j)) (LL j).length).1 i).natAbs<4294967296)
  (h11:∀j,j<m->(pri (ae (LL j)) (LL j).length).2<=100∧(pri (ae (RR j)) (RR j).length).2<=100∧(∀i,i<(pri (ae (LL j)) (LL j).length).2->((pri (ae (LL j)) (LL j).length).1 i).natAbs<=K)∧(∀i,i<(pri (ae (RR j)) (RR j).length).2->((pri (ae (RR j)) (RR j).length).1 i).natAbs<=K) ∧ 
   K+(2*((pri (ae (LL j)) (LL j).length).2+(pri (ae (RR j)) (RR j).length).2)*K) ^ ((pri (ae (LL j)) (LL j).length).2+(pri (ae (RR j)) (RR j).length).2)<2147000000 ^ (u+1)∧2*(K*(K+(2*((pri (ae (LL j)) (LL j).length).2+(pri (ae (RR j)) (RR j).length).2)*K) ^ ((pri (ae (LL j)) (LL j).length).2+(pri (ae (RR j)) (RR j).length).2)))+1<=2147000000 ^ v∧0<v∧v+u+v<256)
  (h12:∀j,j<m->(∀i,i<20->ae (LL j) i=conv (ae (LL (j+1))) (ae (FF j)) i)∧(∀i,i<20->ae (RR j) i=conv (ae (QQ j)) (ae (FF j)) i))
  (h13:∀j,j<m->aG (mk (max (QQ j).length ((LL (j+1)).length-1)) fun i=>upto (QQ j).length (ae (QQ j)) i-upto ((LL (j+1)).length-1) (drv (ae (LL (j+1)))) i)=RR (j+1)) (h14:(LL m).length<=1) :
  nf (ae A) A.length m 2 4 2 2 2 2 (fun j=>ae (LL j)) (fun j=>ae (QQ j)) (fun j=>(LL j).length) (fun j=>(QQ j).length) RR (fun j=>(ae (FF j),(FF j).length)) (ae C,C.length) (ae Q) Q.length:=by
 have bl:∀{L:List Int},(∀x,x ∈ L->x.natAbs<4294967296)->∀i,Bd (ae L i).natAbs 2:=fun h i=>(ve (h:=h) i).more (by omega)
 obtain ⟨a1,a2,a3,a4,a5,a6,a7,a8,a9,a10⟩:=h1
 have hG:=Hp (cI _ _) (cI _ _) h2.1 h2.2
 refine ⟨⟨by omega,a5,fun i hi=>ep hi,bl fun x hx=>by have:=a6 x hx;omega,fun i hi=>xW hi,a7,?_,hG,qP (cI _ _).1 h3 (by omega),bl a9,Hz (cI _ _) (cI _ _) h4,hG▸tE (cI _ _) (cI _ _),a8,by first | omega | (dsimp only;omega),h5.1,jf (N:=20) (fun i hi=>ep (by omega)) a4 h5.2.2.1,h5.2.1,fun i hi=>ep hi,jf (N:=20) (fun i hi=>xW (by omega)) (by omega) h5.2.2.2,bl a10,by omega,fun h=>⟨h6,h⟩⟩,fun j hj=>?_,by omega,by omega,by omega,by omega,by omega,by omega,by omega,fun j hj i hi=>ep hi,fun j hj=>(h7 j (by omega)).2.2.2.2.1,fun j hj=>by have:=(h7 j (by omega)).1;first | omega | (dsimp only;omega),fun j hj=>bl (h7 j (by omega)).2.2.1,fun j hj=>(h7 j (by omega)).2.2.2.2.2,fun j hj=>by have:=(h7 j (by omega)).2.1;omega,fun j hj=>bl (h7 j (by omega)).2.2.2.1,h14⟩
 ·refine qP (n:=A.length-1) (fun i hi=>xW hi) (fun i hi=>?_) (by omega)
  have h:=a6 (ae A (i+1)) (by
   unfold ae
   rw [List.getD_eq_getElem?_getD,List.getElem?_eq_getElem (by omega)]
   exact List.getElem_mem _)
  rw [drv,Int.natAbs_mul,Int.natAbs_natCast]
  have h':(i+1)*(ae A (i+1)).natAbs<=10*(ae A (i+1)).natAbs:=Nat.mul_le_mul_right _ (by omega)
  omega
 ·obtain ⟨b1,b2,b3,b4,b5,b6,b7,b8⟩:=h8 j hj
  have c1:=h7 j (by omega)
  have c2:=h7 (j+1) (by omega)
  have hF:=Hp (cI _ _) (cI _ _) (h9 j hj).1 (h9 j hj).2
  exact ⟨b1,hF,qP (cI _ _).1 (h10 j hj) (by omega),bl b5,Hz (cI _ _) (cI _ _) (h11 j hj),hF▸tE (cI _ _) (cI _ _),b2,by first | omega | (dsimp only;omega),b7,jf (N:=20) (fun i hi=>ep (by omega)) (by omega) (h12 j hj).1,b8,by omega,fun i hi=>ep hi,jf (N:=20) (fun i hi=>ep (by omega)) (by omega) (h12 j hj).2,bl b6,fun h=>⟨h13 j hj,h⟩⟩
def du (l:List (List Int)) (j:Nat):List Int:=l.getD j []
theorem YY:nf (ae [-2,5,-3,-1,1]) 5 3 2 4 2 2 2 2 (fun j=>ae (du [[-2,1,1],[-1,1],[-1,1],[1]] j)) (fun j=>ae (du [[2],[1],[]] j)) (fun j=>(du [[-2,1,1],[-1,1],[-1,1],[1]] j).length) (fun j=>(du [[2],[1],[]] j).length) (du [[4,2],[1],[],[]]) (fun j=>(ae (du [[2,1],[1],[-1,1]] j),(du [[2,1],[1],[-1,1]] j).length)) (ae [1,-2,1],3) (ae [5,4]) 2:=
 HF (A:=[-2,5,-3,-1,1]) (C:=[1,-2,1]) (Q:=[5,4]) (LL:=du [[-2,1,1],[-1,1],[-1,1],[1]]) (QQ:=du [[2],[1],[]]) (RR:=du [[4,2],[1],[],[]]) (FF:=du [[2,1],[1],[-1,1]]) (m:=3) (K:=100) (u:=8) (v:=8) (by omega) (by omega)
  (by decide +kernel) (by decide +kernel) (by decide +kernel) (by decide +kernel) (by decide +kernel) (by decide +kernel) (by decide +kernel) (by decide +kernel) (by decide +kernel) (by decide +kernel) (by decide +kernel) (by decide +kernel) (by decide +kernel) (by decide +kernel)
theorem YZ:nf (ae [0,0,1]) 3 2 2 4 2 2 2 2 (fun j=>ae (du [[0,1],[0,1],[1]] j)) (fun j=>ae (du [[1],[]] j)) (fun j=>(du [[0,1],[0,1],[1]] j).length) (fun j=>(du [[1],[]] j).length) (du [[1],[],[]]) (fun j=>(ae (du [[1],[0,1]] j),(du [[1],[0,1]] j).length)) (ae [0,1],2) (ae [2]) 1:=
 HF (A:=[0,0,1]) (C:=[0,1]) (Q:=[2]) (LL:=du [[0,1],[0,1],[1]]) (QQ:=du [[1],[]]) (RR:=du [[1],[],[]]) (FF:=du [[1],[0,1]]) (m:=2) (K:=100) (u:=8) (v:=8) (by omega) (by omega)
  (by decide +kernel) (by decide +kernel) (by decide +kernel) (by decide +kernel) (by decide +kernel) (by decide +kernel) (by decide +kernel) (by decide +kernel) (by decide +kernel) (by decide +kernel) (by decide +kernel) (by decide +kernel) (by decide +kernel) (by decide +kernel)
section
variable {Φ:PH}{p x:Nat}
theorem Zb (hp:∀w v,Φ p w v->Rw 2 (Nf (ae [-2,5,-3,-1,1]) k) 5 w v) (hx:Φ x=Rw 2 (Nf (ae [-2,1,1]) 18) 3):aj Φ prog ⟨37,[.fact p],[oS x],false⟩:=
 Hi (c:=5) (L:=[-2,1,1]) (fun w v h=>(hp w v h).to fun i w v _ h=>(ai.re h ((ve i).more (show 1<=2 by omega))).i) hx YY (by decide +kernel) (by decide +kernel) (by decide +kernel)
theorem Zc (hp:∀w v,Φ p w v->Rw 2 (Nf (ae [0,0,1]) k) 3 w v) (hx:Φ x=Rw 2 (Nf (ae [1]) 10) 1):aj Φ prog ⟨37,[.fact p],[oS x],false⟩:=
 Hi (c:=5) (L:=[1]) (fun w v h=>(hp w v h).to fun i w v _ h=>(ai.re h ((ve i).more (show 1<=2 by omega))).i) hx YZ (by decide +kernel) (by decide +kernel) (by decide +kernel)
end
def Zd (z:Nat->Int) (n k kq:Nat):List WP:=[fun w v=>Rw 4 (fun ι w v=>al w v (((z ι:Int):Rat)) kq) n w v,Rw 2 (Nf z k) n]
def Ze:List Step:=[.base ⟨32,[0,1],oT,false⟩]
def Zf:List Out:=[oS 0,oS 1]
theorem Zg {z:Nat->Int}{kq:Nat} (hn:n<=1000000) (hkq:kq<=500000) (hk:k<=500000):aj (ph (Zd z n k kq)) prog ⟨10,[0,1],oT,false⟩:=aV Zf oT Ze func10 (by kernel_rfl) (lB (Zh (z:=z) (n:=n) (k:=k) (kq:=kq) ad ad) au)
  (aK [.fact 0 (.one (.s)),.fact 1 (.one (.s))] ⟨Rw.Is 4 (fun ι w v=>al w v (((z ι:Int):Rat)) kq) n,Rw.Is 2 (Nf z k) n,trivial⟩) bg
section
variable {Φ:PH}{p q x kq p0 p1 p2 p3:Nat}{z:Nat->Int}
theorem sQ (hp:∀w v,Φ p w v->Rw 4 (fun i w v=>al w v ((z i:Int):Rat) kq) n w v) (hq:∀w v,Φ q w v->Rw 2 (Nf z k) n w v) (hn:n<=1000000:=by omega) (hkq:kq<=500000:=by omega) (hk:k<=500000:=by omega):aj Φ prog ⟨10,[.fact p,.fact q],oT,false⟩:=
 aW (Zg hn hkq hk) ⟨hp,hq,trivial⟩ ⟨⟨rfl,trivial⟩,trivial⟩
theorem Zi {J:List Nat} (h0:∀w v,Φ p0 w v->Rw 2 (If (ae [-1,1]) 2) 2 w v) (h1:∀w v,Φ p1 w v->Rw 2 (If (ae [-1,1]) 2) 2 w v) (h2:∀w v,Φ p2 w v->Rw 2 (If (ae [-1,1]) 2) 2 w v) (h3:∀w v,Φ p3 w v->Rw 2 (If (ae [2,1]) 2) 2 w v) (hx:Φ x=Rw 1 (bS (fun i=>ae (du [[-1,1],[-1,1],[-1,1],[2,1]] i)) (fun i=>(du [[-1,1],[-1,1],[-1,1],[2,1]] i).length) 2) 4) :
  aj Φ prog ⟨0,[.any,.fact p0,.fact p1,.fact p2,.fact p3],[oS x],.fresh J (dq 59 4)⟩:=
 jF (ps:=[p0,p1,p2,p3]) (sz:=1) (zc:=.one .nl) underlying59 rfl (fun i p h w v hv=>by
  match i,h with
  | 0,h=>
   obtain rfl:=Option.some.inj h
   exact ⟨by rw [gZ (h0 w v hv)];rfl,v,by rw [gZ (h0 w v hv)],h0 w v hv⟩
  | 1,h=>
   obtain rfl:=Option.some.inj h
   exact ⟨by rw [gZ (h1 w v hv)];rfl,v,by rw [gZ (h1 w v hv)],h1 w v hv⟩
  | 2,h=>
   obtain rfl:=Option.some.inj h
   exact ⟨by rw [gZ (h2 w v hv)];rfl,v,by rw [gZ (h2 w v hv)],h2 w v hv⟩
  | 3,h=>
   obtain rfl:=Option.some.inj h
   exact ⟨by rw [gZ (h3 w v hv)];rfl,v,by rw [gZ (h3 w v hv)],h3 w v hv⟩
  | i+4,h=>simp at h) hx
end
def Zj  : List WP:=[Ni (-1),Ni (1),fun w v=>Rw 1 (fun i _ v=>v = .agg #[.int .i64 (ae [-1,1] i)]) 2 w v,Rw 2 (Nf (ae ([-1,1])) 2) 2,fun w v=>Rw 1 (fun i _ v=>v = .agg #[.int .i64 (ae [-1,1] i)]) 2 w v,Rw 2 (Nf (ae ([-1,1])) 2) 2,fun w v=>Rw 1 (fun i _ v=>v = .agg #[.int .i64 (ae [-1,1] i)]) 2 w v,Rw 2 (Nf (ae ([-1,1])) 2) 2,Ni (2),fun w v=>Rw 1 (fun i _ v=>v = .agg #[.int .i64 (ae [2,1] i)]) 2 w v,Rw 2 (Nf (ae ([2,1])) 2) 2,Rw 1 (bS (fun i=>ae (du [[-1,1],[-1,1],[-1,1],[2,1]] i)) (fun i=>(du [[-1,1],[-1,1],[-1,1],[2,1]] i).length) 2) 4,Rw 2 (Nf (ae ([-2,5,-3,-1,1])) 34) 5,Ni (-2),fun w v=>Rw 1 (fun i _ v=>v = .agg #[.int .i64 (ae [-2,1,1] i)]) 3 w v,fun w v=>Rw 4 (fun ι w v=>al w v ((((ae ([-2,1,1])) ι:Int):Rat)) 6) 3 w v,Rw 2 (Nf (ae ([-2,1,1])) 18) 3,fun w v=>Rw 1 (fun i _ v=>v = .agg #[.int .i64 (ae [1] i)]) 1 w v,fun w v=>Rw 4 (fun ι w v=>al w v ((((ae ([1])) ι:Int):Rat)) 6) 1 w v,Ni (0),fun w v=>Rw 1 (fun i _ v=>v = .agg #[.int .i64 (ae [0,0,1] i)]) 3 w v,Rw 2 (Nf (ae ([0,0,1])) 2) 3,Rw 2 (Nf (ae ([1])) 10) 1]
def Zk:List Step:=[.derive (.one (.ci .i64 (-1))) (.one (.lit (.ci .i64 (-1)))) [] 0,.derive (.one (.ci .i64 1)) (.one (.lit (.ci .i64 1))) [] 1,.derive (.one (.ci .i64 2)) (.one (.lit (.ci .i64 2))) [] 8,.base ⟨0,[.any,0,1],[oS 2],.fresh [] (dq 22 2)⟩,.base ⟨20,[2],[oS 3],false⟩,.base ⟨0,[.any,0,1],[oS 4],.fresh [] (dq 22 2)⟩,.base ⟨20,[4],[oS 5],false⟩,.base ⟨0,[.any,0,1],[oS 6],.fresh [] (dq 22 2)⟩,.base ⟨20,[6],[oS 7],false⟩,.base ⟨0,[.any,8,1],[oS 9],.fresh [] (dq 22 2)⟩,.base ⟨20,[9],[oS 10],false⟩,.base ⟨0,[.any,3,5,7,10],[oS 11],.fresh [] (dq 59 4)⟩,.base ⟨36,[11],[oS 12],false⟩,.derive (.one (.ci .i64 (-2))) (.one (.lit (.ci .i64 (-2)))) [] 13,.derive (.one (.ci .i64 0)) (.one (.lit (.ci .i64 0))) [] 19,.base ⟨0,[.any,13,1,1],[oS 14],.fresh [] (dq 22 3)⟩,.base ⟨22,[14],[oS 15],false⟩,.base ⟨37,[12],[oS 16],false⟩,.base ⟨10,[15,16],oT,false⟩,.base ⟨0,[.any,1],[oS 17],.fresh [] (dq 22 1)⟩,.base ⟨22,[17],[oS 18],false⟩,.base ⟨0,[.any,19,19,1],[oS 20],.fresh [] (dq 22 3)⟩,.base ⟨20,[20],[oS 21],false⟩,.base ⟨37,[21],[oS 22],false⟩,.base ⟨10,[18,22],oT,false⟩]
def Zm:List Out:=[]
theorem Zn   : aj (ph (Zj )) prog ⟨14,[],oT,false⟩:=aV Zm oT Zk func14 (by kernel_rfl) (ej (gE rfl) (ej (gE rfl) (ej (gE rfl) (lB (jF (ps:=[0,1]) (sz:=1) (n:=2) (F:=(fun i _ v=>v = .agg #[.int .i64 (ae [-1,1] i)])) (zc:=.one (.ci .i64 0)) underlying22 rfl (rV ad ad) rfl) (lB (kX (z:=ae [-1,1]) (n:=2) (zs:=[-1,1]) ad rfl (mD (by decide))) (lB (jF (ps:=[0,1]) (sz:=1) (n:=2) (F:=(fun i _ v=>v = .agg #[.int .i64 (ae [-1,1] i)])) (zc:=.one (.ci .i64 0)) underlying22 rfl (rV ad ad) rfl) (lB (kX (z:=ae [-1,1]) (n:=2) (zs:=[-1,1]) ad rfl (mD (by decide))) (lB (jF (ps:=[0,1]) (sz:=1) (n:=2) (F:=(fun i _ v=>v = .agg #[.int .i64 (ae [-1,1] i)])) (zc:=.one (.ci .i64 0)) underlying22 rfl (rV ad ad) rfl) (lB (kX (z:=ae [-1,1]) (n:=2) (zs:=[-1,1]) ad rfl (mD (by decide))) (lB (jF (ps:=[8,1]) (sz:=1) (n:=2) (F:=(fun i _ v=>v = .agg #[.int .i64 (ae [2,1] i)])) (zc:=.one (.ci .i64 0)) underlying22 rfl (rV ad ad) rfl) (lB (kX (z:=ae [2,1]) (n:=2) (zs:=[2,1]) ad rfl (mD (by decide))) (lB (Zi (Rw.To 2 (Nf (ae ([-1,1])) 2) 2 (fun _ _ _ _ h=>ai.i h)) (Rw.To 2 (Nf (ae ([-1,1])) 2) 2 (fun _ _ _ _ h=>ai.i h)) (Rw.To 2 (Nf (ae ([-1,1])) 2) 2 (fun _ _ _ _ h=>ai.i h)) (Rw.To 2 (Nf (ae ([2,1])) 2) 2 (fun _ _ _ _ h=>ai.i h)) rfl) (lB (Hf (zz:=fun i=>ae (du [[-1,1],[-1,1],[-1,1],[2,1]] i)) (ln:=fun i=>(du [[-1,1],[-1,1],[-1,1],[2,1]] i).length) (n:=4) (k:=2) (c:=5) (L:=[-2,5,-3,-1,1]) ad rfl (by omega) (by decide +kernel) (by decide +kernel) (by decide +kernel)) (ej (gE rfl) (ej (gE rfl) (lB (jF (ps:=[13,1,1]) (sz:=1) (n:=3) (F:=(fun i _ v=>v = .agg #[.int .i64 (ae [-2,1,1] i)])) (zc:=.one (.ci .i64 0)) underlying22 rfl (AX ad ad ad) rfl) (lB (HH (z:=ae [-2,1,1]) (n:=3) (L:=[-2,1,1]) ad rfl (mD (by decide))) (lB (Zb (k:=34) ad rfl) (lB (sQ (z:=(ae ([-2,1,1]))) (n:=3) (k:=18) (kq:=6) ad ad) (lB (jF (ps:=[1]) (sz:=1) (n:=1) (F:=(fun i _ v=>v = .agg #[.int .i64 (ae [1] i)])) (zc:=.one (.ci .i64 0)) underlying22 rfl (On ad) rfl) (lB (HH (z:=ae [1]) (n:=1) (L:=[1]) ad rfl (mD (by decide))) (lB (jF (ps:=[19,19,1]) (sz:=1) (n:=3) (F:=(fun i _ v=>v = .agg #[.int .i64 (ae [0,0,1] i)])) (zc:=.one (.ci .i64 0)) underlying22 rfl (AX ad ad ad) rfl) (lB (kX (z:=ae [0,0,1]) (n:=3) (zs:=[0,0,1]) ad rfl (mD (by decide))) (lB (Zc (k:=2) ad rfl) (lB (sQ (z:=(ae ([1]))) (n:=1) (k:=10) (kq:=6) ad ad) au)))))))))))))))))))))))))
  (aK [] trivial) bg
theorem DV {Φ:PH}:aj Φ prog ⟨14,[],oT,false⟩:=aW Zn trivial ⟨⟨rfl,trivial⟩,trivial⟩
section
variable {Φ:PH}{p q x k2 k0:Nat}{z y:Nat->Int}
end
section
variable {Φ:PH}{p q x k2 k0:Nat}{z y:Nat->Int}{c:Int}
end
end Go.Proofs.YtomamliepbhegaaGreat.Sym
