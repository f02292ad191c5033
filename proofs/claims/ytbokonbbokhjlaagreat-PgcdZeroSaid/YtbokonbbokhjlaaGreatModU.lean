/- Odd. Factors of written polynomials. Layer 7's example. What Gcd, Coprime, Square, Factors, Odd answer of 0 and of constants. -/
import Derived.Test.YtbokonbbokhjlaaGreatModM
import Derived.Test.YtbokonbbokhjlaaGreatPolZ
import Derived.Test.YtbokonbbokhjlaaGreatDivW
set_option maxRecDepth 100000
namespace Go.Proofs.YtbokonbbokhjlaaGreat.Sym
open Go.RowKit
theorem CX (j:Nat):Int.tmod ((j:Nat):Int) 2=((j % 2:Nat):Int):=rfl
section
variable {Φ:PH}{p q x n n2 k j kF:Nat}{Fz:Nat->jl}{w:World}{v:Value}
theorem Re (h:j % 2=0) (r:Rw 2 (If ((Fz j).1) kF) (Fz j).2 w v):Rw 2 (fun i w v=>aC w v ((fun i=>(Fz (2*i)).1) ((j+1) / 2) i) kF) ((fun i=>(Fz (2*i)).2) ((j+1) / 2)) w v:=by
 have e:2*((j+1) / 2)=j:=by omega
 show Rw 2 (fun i w v=>aC w v ((Fz (2*((j+1) / 2))).1 i) kF) (Fz (2*((j+1) / 2))).2 w v
 rw [e]
 exact r
theorem Rf (w:World):dF 28 (fun i=>(Fz (2*i)).1) (fun i=>(Fz (2*i)).2) kF ((0+1) / 2) w (.slice none 0 0):=dF.nil 28 _ _ kF w
theorem Rg (hj:¬j % 2=0) (h:dF 28 (fun i=>(Fz (2*i)).1) (fun i=>(Fz (2*i)).2) kF ((j+1) / 2) w v):dF 28 (fun i=>(Fz (2*i)).1) (fun i=>(Fz (2*i)).2) kF ((j+1+1) / 2) w v:=by
 rw [show (j+1+1) / 2=(j+1) / 2 by omega]
 exact h
theorem Rh {zz:Nat->Nat->Int}{ln:Nat->Nat} (hp:∀w v,Φ p w v->dF 28 zz ln k n w v) (hq:∀w v,Φ q w v->bf zz ln k n w v) (hn:n<=1000000) (hx:Φ x=dF 28 zz ln k n2) (h2:n+1=n2) :
  ai Φ Tryz.prog ⟨0,[.fact p,.row 1 [q]],[oS x],.loose [] j 0 (fN 41 41)⟩:=by
 subst h2
 exact CV hp hq hn hx
end
def uZ (a:Nat->Int) (n m k kF c:Nat) (Fz:Nat->jl) (L:List Int):List WP:=[Rw 2 (If a k) n,Nw (cD a n) k,Rw 1 (bf (fun i=>(Fz i).1) (fun i=>(Fz i).2) kF) m,Nz m,dF 28 (fun i=>(Fz (2*i)).1) (fun i=>(Fz (2*i)).2) kF ((m+1) / 2),Rw 2 (Nf (ae L) (2+((m+1) / 2)*(kF+c+1))) L.length]
def Ri (kF:Nat) (Fz:Nat->jl) (j:Nat):List WP:=[Nz j,dF 28 (fun i=>(Fz (2*i)).1) (fun i=>(Fz (2*i)).2) kF ((j+1) / 2),fun _ _=>True,fun w v=>Ptr 1 (fun w v=>∃s,v = .agg #[s]∧Rw 2 (If ((fun i=>(Fz i).1) j) kF) ((fun i=>(Fz i).2) j) w s) w v,Rw 2 (If ((fun i=>(Fz i).1) j) kF) ((fun i=>(Fz i).2) j),Ni (Int.tmod ((j:Nat):Int) 2),bf (fun i=>(Fz (2*i)).1) (fun i=>(Fz (2*i)).2) kF ((j+1) / 2),dF 28 (fun i=>(Fz (2*i)).1) (fun i=>(Fz (2*i)).2) kF ((j+1+1) / 2),Nz (j+1),fun w v=>Ptr 1 (fun w v=>∃s,v = .agg #[s]∧Rw 2 (If ((fun i=>(Fz i).1) j) kF) ((fun i=>(Fz i).2) j) w s) w v,Rw 2 (If ((fun i=>(Fz i).1) j) kF) ((fun i=>(Fz i).2) j),Ni (Int.tmod ((j:Nat):Int) 2),Nz (j+1)]
def CY:bg:=⟨[0,2,6,7,8,9,10,11],[(.slot 12,.i),(.slot 3,.s)],[(.one 0,6),(.one 1,.Ru [1] 7),(.one 1,.lo 1)],[.closed (.one (.ci .i64 0)),.closed (.one (.nl)),.frm 0],6,[(7,4)]⟩
def CZ:List Step:=[bQ [.fact 6,.fact 3] oT (ak .lss),
   bQ [.fact 2,.fact 6] [oP 9] (aG 41),
   bQ [.fact 9] [oS 10] (aM 28),
   bQ [.fact 6,.lit (.ci .i64 2)] [oN 11] (qX),
   bQ [.fact 11,.lit (.ci .i64 0)] oT (ak .eql),
   .derive (.agg [.s 14 0]) (.agg [.s]) [(0,1,10)] 12,
   .base ⟨0,[.fact 7,.row 1 [12]],[oS 13],.loose [] 1 0 (fN 41 41)⟩,
   bQ [.fact 6,.lit (.ci .i64 1)] [oN 14] (ak .add)]
def C0:List Step:=[bQ [.fact 6,.fact 3] oT (ak .lss),
   bQ [.fact 2,.fact 6] [oP 15] (aG 41),
   bQ [.fact 15] [oS 16] (aM 28),
   bQ [.fact 6,.lit (.ci .i64 2)] [oN 17] (qX),
   bQ [.fact 17,.lit (.ci .i64 0)] oF (ak .eql),
   bQ [.fact 6,.lit (.ci .i64 1)] [oN 18] (ak .add)]
def Rj:List Step:=[bQ [.fact 6,.fact 3] oF (ak .lss)]
def Rk:List Step:=[.base ⟨33,[.fact 0],[oI 1],false⟩,
   .base ⟨58,[.fact 1],oF,false⟩,
   .base ⟨22,[.fact 0],[oS 2],false⟩,
   bQ [.fact 2] [oN 3] (aD 41),
   .loop CY [(CZ,[.frm 14,.frm 13,.frm 0]),(C0,[.frm 18,.frm 7,.frm 0])] Rj,
   .base ⟨36,[.fact 4],[oS 5],.cE [1] false⟩]
def ZR:List Out:=[oS 0]
theorem Rm {a:Nat->Int}{n m k k3 kL kR kQ kF c:Nat}{Lf Qf:Nat->Nat->Int}{lL lQ:Nat->Nat}{RL:Nat->List Int}{Fz:Nat->jl}{G:jl}{Q0:Nat->Int}{l0:Nat}{L:List Int} (H:kx a n m k k3 kL kR kQ kF Lf Qf lL lQ RL Fz G Q0 l0) (hld:cD a n≠0) (hm2:m<=200) (hc:c<=100) (hcL:∀j,j<(m+1) / 2->(dZ (fun i=>(Fz (2*i)).1) (fun i=>(Fz (2*i)).2) j).length<=c) (hL:dZ (fun i=>(Fz (2*i)).1) (fun i=>(Fz (2*i)).2) ((m+1) / 2)=L):ai (ph (uZ a n m k kF c Fz L)) Tryz.prog ⟨26,[.fact 0],[oS 5],false⟩:=by
 have hk:=H.hk;have hkF:=H.hkF;have hnn:=H.base.hn
 exact aV ZR [oS 5] Rk Tryz.func26 (by kernel_rfl)
  (lB (iJ (z:=a) (n:=n) (Rw.To 2 (If a k) n (fun _ _ _ _ h=>h)) rfl (by omega) (by omega) (rfl))
   (lB (C1 nN (decide_eq_false hld))
   (lB (CW (Rw.To 2 (If a k) n (fun _ _ _ _ h=>h)) rfl H)
   (lB (aP (F:=(bf (fun i=>(Fz i).1) (fun i=>(Fz i).2) kF)) Tryz.underlying41 ad rfl)
   (bz (counted m (fun j=>ph (uZ a n m k kF c Fz L ++ Ri kF Fz j)) (fun j=>if j % 2=0 then 0 else 1) (fun j p hp=>bB (show p<(uZ a n m k kF c Fz L).length from hp)) ⟨fun _=>rfl,fun w=>Rf w,aS,trivial⟩ (fun j hj=>by
   skip
   by_cases hcj:j % 2=0
   ·skip
    exact ⟨(CZ,[.frm 14,.frm 13,.frm 0]),by rw [if_pos hcj];rfl,⟨ad,ad,aS,trivial⟩,(lB (cU ad ad)
   (lB (bZ (i:=j) (F:=(bf (fun i=>(Fz i).1) (fun i=>(Fz i).2) kF)) Tryz.underlying41 (by kernel_rfl) ad ad (by omega) rfl)
   (lB (mj (by kernel_rfl) ad (fun _ _ h=>qU h) rfl)
   (lB (C2 ad (by decide) rfl)
   (lB (bW (op:=.eql) ad (bN (decide_eq_true (by rw [CX];omega)) (by simp)))
   (ec (CR (zz:=(fun i=>(Fz (2*i)).1)) (ln:=(fun i=>(Fz (2*i)).2)) (k:=kF) (n:=(j+1) / 2) rfl (fun _ _ h=>Re hcj h))
   (lB (Rh (n:=(j+1) / 2) (k:=kF) (zz:=(fun i=>(Fz (2*i)).1)) (ln:=(fun i=>(Fz (2*i)).2)) ad ad (by omega) rfl (by omega))
   (lB (cN ad (by omega) rfl (by omega) (by omega))
   aw))))))))⟩
   ·skip
    exact ⟨(C0,[.frm 18,.frm 7,.frm 0]),by rw [if_neg hcj];rfl,⟨ad,fun _ _ h=>Rg hcj h,aS,trivial⟩,(lB (cU ad ad)
   (lB (bZ (i:=j) (F:=(bf (fun i=>(Fz i).1) (fun i=>(Fz i).2) kF)) Tryz.underlying41 (by kernel_rfl) ad ad (by omega) rfl)
   (lB (mj (by kernel_rfl) ad (fun _ _ h=>qU h) rfl)
   (lB (C2 ad (by decide) rfl)
   (lB (bW (op:=.eql) ad (bN (decide_eq_false (by rw [CX];omega)) (by simp)))
   (lB (cN ad (by omega) rfl (by omega) (by omega))
   aw))))))⟩
)
   (lB (tlF ad ad)
   aw)
   (fun q hq w v h=>by
    simp only [CY,List.mem_cons,List.not_mem_nil,or_false] at hq
    rcases hq with rfl
    ·exact (fun h=>h) h)) (lB (de [1] (C3 (zz:=(fun i=>(Fz (2*i)).1)) (ln:=(fun i=>(Fz (2*i)).2)) (n:=(m+1) / 2) (k:=kF) (c:=c) (fun _ _ h=>dF.rw h) rfl (by omega) (by omega) (by omega) (Nat.le_trans (Nat.mul_le_mul (show (m+1) / 2<=101 by omega) (show kF+c+1<=201 by omega)) (by omega)) (fun i hi=>Nat.le_trans (H.rd (2*i) (by omega)).hFl (by omega)) hcL hL))
   aw))))))
  (aL [.fact 0 (.one (.s))] ⟨Rw.Is 2 (If a k) n,trivial⟩) bc
def Q1 (a:Nat->Int) (n k:Nat):List WP:=[Rw 2 (If a k) n,Nw (cD a n) k]
def Q2:List Step:=[.base ⟨33,[.fact 0],[oI 1],false⟩,
   .base ⟨58,[.fact 1],oT,false⟩]
def Q3:List Out:=[oS 0]
theorem Q4 {a:Nat->Int}{n k:Nat} (hn:n<=1000) (hk:k<=1000) (hld:cD a n=0):ai (ph (Q1 a n k)) Tryz.prog ⟨26,[.fact 0],[⟨.one (.lit (.nl)),[]⟩],false⟩:=by
 skip
 exact aV Q3 [⟨.one (.lit (.nl)),[]⟩] Q2 Tryz.func26 (by kernel_rfl)
  (lB (iJ (z:=a) (n:=n) (Rw.To 2 (If a k) n (fun _ _ _ _ h=>h)) rfl (by omega) (by omega) (rfl))
   (lB (C1 nN (decide_eq_true hld))
   aw))
  (aL [.fact 0 (.one (.s))] ⟨Rw.Is 2 (If a k) n,trivial⟩) bc
section
variable {Φ:PH}{p x n m k k3 kL kR kQ kF l0 c:Nat}{a Q0:Nat->Int}{Lf Qf:Nat->Nat->Int}{lL lQ:Nat->Nat}{RL:Nat->List Int}{Fz:Nat->(Nat->Int)×Nat}{G:(Nat->Int)×Nat}{L:List Int}
theorem u9 (hp:∀w v,Φ p w v->Rw 2 (If a k) n w v) (hx:Φ x=Rw 2 (Nf (ae L) (2+((m+1) / 2)*(kF+c+1))) L.length) (H:kx a n m k k3 kL kR kQ kF Lf Qf lL lQ RL Fz G Q0 l0) (hld:cD a n≠0) (hm2:m<=200) (hc:c<=100)
  (hcL:∀j,j<(m+1) / 2->(dZ (fun i=>(Fz (2*i)).1) (fun i=>(Fz (2*i)).2) j).length<=c) (hL:dZ (fun i=>(Fz (2*i)).1) (fun i=>(Fz (2*i)).2) ((m+1) / 2)=L) :
  ai Φ Tryz.prog ⟨26,[.fact p],[oS x],false⟩:=
 aW (Rm H hld hm2 hc hcL hL) ⟨hp,trivial⟩ ⟨⟨rfl,⟨rfl,rfl,fun _ _ h=>hx▸h⟩,trivial⟩,trivial⟩
theorem Ko (hp:∀w v,Φ p w v->Rw 2 (If a k) n w v) (hn:n<=1000) (hk:k<=1000) (hld:cD a n=0) :
  ai Φ Tryz.prog ⟨26,[.fact p],[⟨.one (.lit .nl),[]⟩],false⟩:=
 aW (Q4 (k:=k) hn hk hld) ⟨hp,trivial⟩ ⟨⟨rfl,trivial⟩,trivial⟩
end
theorem oB {f:Nat->Int}{n k:Nat} (h0:∀i,n<=i->f i=0) (h:∀i,i<n->(f i).natAbs<4294967296) (hk:1<=k) (i:Nat):Bd (f i).natAbs k:=by
 refine Bd.more (i:=1) ?_ hk
 show _<4294967296 ^ 1
 rcases Nat.lt_or_ge i n with h1 | h1
 ·have:=h i h1;omega
 ·rw [h0 i h1];decide
theorem vd {f:Nat->Int}{n K:Nat} (h0:∀i,n<=i->f i=0) (h:∀i,i<n->(f i).natAbs<=K) (i:Nat):(f i).natAbs<=K:=by
 rcases Nat.lt_or_ge i n with h1 | h1
 ·exact h i h1
 ·rw [h0 i h1];exact Nat.zero_le _
theorem C4 {s t:(Nat->Int)×Nat} (hs:Vz s) (ht:Vz t){L:List Int} (h1:(cmn s t).2=L.length) (h2:∀i,i<L.length->(cmn s t).1 i=ae L i):cmn s t=(ae L,L.length):=by
 refine Prod.ext (funext fun i=>?_) h1
 rcases Nat.lt_or_ge i L.length with h | h
 ·exact h2 i h
 ·rw [(oz hs ht).1 i (by omega)]
  exact (dC h).symm
theorem hO {f:Nat->Int}{B C:List Int}{N:Nat} (h0:∀i,N<=i->f i=0) (hl:B.length+C.length<=N) (h:∀i,i<N->f i=conv (ae B) (ae C) i) (i:Nat):f i=conv (ae B) (ae C) i:=by
 rcases Nat.lt_or_ge i N with h1 | h1
 ·exact h i h1
 ·rw [h0 i h1,jz (a:=B.length) (b:=C.length) (fun i hi=>dC hi) (fun i hi=>dC hi) (by omega)]
theorem C5 {s t:(Nat->Int)×Nat}{ka kb K u v:Nat} (hs:Vz s) (ht:Vz t) (hk:1<=ka∧ka<=100∧1<=kb∧kb<=100) (hK:K<4294967296)
  (h:s.2<=100∧t.2<=100∧(∀i,i<s.2->(s.1 i).natAbs<=K)∧(∀i,i<t.2->(t.1 i).natAbs<=K) ∧ 
   K+(2*(s.2+t.2)*K) ^ (s.2+t.2)<2147000000 ^ (u+1)∧2*(K*(K+(2*(s.2+t.2)*K) ^ (s.2+t.2)))+1<=2147000000 ^ v∧0<v∧v+u+v<256):fZ s t ka kb:=by
 obtain ⟨h1,h2,h3,h4,h6,h7,h8,h9⟩:=h
 exact ⟨by omega,by omega,fun _ _=>⟨hk.2.1,hk.2.2.2,by omega,oB hs.1 (fun i hi=>Nat.lt_of_le_of_lt (h3 i hi) hK) hk.1,oB ht.1 (fun i hi=>Nat.lt_of_le_of_lt (h4 i hi) hK) hk.2.2.1,K,u,v,vd hs.1 h3,vd ht.1 h4,h6,h7,h8,h9⟩⟩
theorem qY {A:List Int}{i:Nat} (h:A.length-1<=i):drv (ae A) i=0:=by
 rw [drv,dC (by omega),Int.mul_zero]
theorem C6 {A C Q:List Int}{LL QQ RR FF:Nat->List Int}{m K u v:Nat} (hK:K<1000000) (hm:m<=50)
  (h1:A.length<=10∧C.length<=10∧Q.length<=10∧(LL 0).length+C.length<=20∧tl (ae A) A.length=A.length∧(∀x,x ∈ A->x.natAbs<100000000)∧tl (drv (ae A)) (A.length-1)=A.length-1∧0<C.length∧(∀x,x ∈ C->x.natAbs<4294967296)∧(∀x,x ∈ Q->x.natAbs<4294967296))
  (h2:(cmn (pri (ae A) A.length) (pri (drv (ae A)) (A.length-1))).2=C.length∧∀i,i<C.length->(cmn (pri (ae A) A.length) (pri (drv (ae A)) (A.length-1))).1 i=ae C i)
  (h3:∀i,i<(pri (ae A) A.length).2->((pri (ae A) A.length).1 i).natAbs<4294967296)
  (h4:(pri (ae A) A.length).2<=100∧(pri (drv (ae A)) (A.length-1)).2<=100∧(∀i,i<(pri (ae A) A.length).2->((pri (ae A) A.length).1 i).natAbs<=K)∧(∀i,i<(pri (drv (ae A)) (A.length-1)).2->((pri (drv (ae A)) (A.length-1)).1 i).natAbs<=K) ∧ 
   K+(2*((pri (ae A) A.length).2+(pri (drv (ae A)) (A.length-1)).2)*K) ^ ((pri (ae A) A.length).2+(pri (drv (ae A)) (A.length-1)).2)<2147000000 ^ (u+1)∧2*(K*(K+(2*((pri (ae A) A.length).2+(pri (drv (ae A)) (A.length-1)).2)*K) ^ ((pri (ae A) A.length).2+(pri (drv (ae A)) (A.length-1)).2)))+1<=2147000000 ^ v∧0<v∧v+u+v<256)
  (h5:A.length+1-C.length=(LL 0).length∧A.length-1+1-C.length=Q.length∧(∀i,i<20->ae A i=conv (ae (LL 0)) (ae C) i)∧(∀i,i<20->drv (ae A) i=conv (ae Q) (ae C) i))
  (h6:be (mk (max Q.length ((LL 0).length-1)) fun i=>upto Q.length (ae Q) i-upto ((LL 0).length-1) (drv (ae (LL 0))) i)=RR 0)
  (h7:∀j,j<m+1->(LL j).length<=10∧(RR j).length<=10∧(∀x,x ∈ LL j->x.natAbs<4294967296)∧(∀x,x ∈ RR j->x.natAbs<4294967296)∧tl (ae (LL j)) (LL j).length=(LL j).length∧tl (ae (RR j)) (RR j).length=(RR j).length)
  (h8:∀j,j<m->2<=(LL j).length∧0<(FF j).length∧(FF j).length<=10∧(QQ j).length<=10∧(∀x,x ∈ FF j->x.natAbs<4294967296)∧(∀x,x ∈ QQ j->x.natAbs<4294967296)∧(LL j).length+1-(FF j).length=(LL (j+1)).length∧(RR j).length+1-(FF j).length=(QQ j).length)
  (h9:∀j,j<m->(cmn (pri (ae (LL j)) (LL j).length) (pri (ae (RR j)) (RR j).length)).2=(FF j).length∧∀i,i<(FF j).length->(cmn (pri (ae (LL j)) (LL j).length) (pri (ae (RR j)) (RR j).length)).1 i=ae (FF j) i)
  (h10:∀j,j<m->∀i,i<(pri (ae (LL j)) (LL j).length).2->((pri (ae (LL j)) (LL j).length).1 i).natAbs<4294967296)
  (h11:∀j,j<m->(pri (ae (LL j)) (LL j).length).2<=100∧(pri (ae (RR j)) (RR j).length).2<=100∧(∀i,i<(pri (ae (LL j)) (LL j).length).2->((pri (ae (LL j)) (LL j).length).1 i).natAbs<=K)∧(∀i,i<(pri (ae (RR j)) (RR j).length).2->((pri (ae (RR j)) (RR j).length).1 i).natAbs<=K) ∧ 
   K+(2*((pri (ae (LL j)) (LL j).length).2+(pri (ae (RR j)) (RR j).length).2)*K) ^ ((pri (ae (LL j)) (LL j).length).2+(pri (ae (RR j)) (RR j).length).2)<2147000000 ^ (u+1)∧2*(K*(K+(2*((pri (ae (LL j)) (LL j).length).2+(pri (ae (RR j)) (RR j).length).2)*K) ^ ((pri (ae (LL j)) (LL j).length).2+(pri (ae (RR j)) (RR j).length).2)))+1<=2147000000 ^ v∧0<v∧v+u+v<256)
  (h12:∀j,j<m->(∀i,i<20->ae (LL j) i=conv (ae (LL (j+1))) (ae (FF j)) i)∧(∀i,i<20->ae (RR j) i=conv (ae (QQ j)) (ae (FF j)) i))
  (h13:∀j,j<m->be (mk (max (QQ j).length ((LL (j+1)).length-1)) fun i=>upto (QQ j).length (ae (QQ j)) i-upto ((LL (j+1)).length-1) (drv (ae (LL (j+1)))) i)=RR (j+1)) (h14:(LL m).length<=1) :
  kx (ae A) A.length m 2 4 2 2 2 2 (fun j=>ae (LL j)) (fun j=>ae (QQ j)) (fun j=>(LL j).length) (fun j=>(QQ j).length) RR (fun j=>(ae (FF j),(FF j).length)) (ae C,C.length) (ae Q) Q.length:=by
 have bl:∀{L:List Int},(∀x,x ∈ L->x.natAbs<4294967296)->∀i,Bd (ae L i).natAbs 2:=fun h i=>(pN h i).more (by omega)
 obtain ⟨a1,a2,a3,a4,a5,a6,a7,a8,a9,a10⟩:=h1
 have hG:=C4 (dh _ _) (dh _ _) h2.1 h2.2
 refine ⟨⟨by omega,a5,fun i hi=>dC hi,bl fun x hx=>by have:=a6 x hx;omega,fun i hi=>qY hi,a7,?_,hG,oB (dh _ _).1 h3 (by omega),bl a9,C5 (dh _ _) (dh _ _) (by omega) (by omega) h4,hG▸oz (dh _ _) (dh _ _),a8,by first | omega | (dsimp only;omega),h5.1,hO (N:=20) (fun i hi=>dC (by omega)) a4 h5.2.2.1,h5.2.1,fun i hi=>dC hi,hO (N:=20) (fun i hi=>qY (by omega)) (by omega) h5.2.2.2,bl a10,by omega,fun h=>⟨h6,h⟩⟩,fun j hj=>?_,by omega,by omega,by omega,by omega,by omega,by omega,by omega,fun j hj i hi=>dC hi,fun j hj=>(h7 j (by omega)).2.2.2.2.1,fun j hj=>by have:=(h7 j (by omega)).1;first | omega | (dsimp only;omega),fun j hj=>bl (h7 j (by omega)).2.2.1,fun j hj=>(h7 j (by omega)).2.2.2.2.2,fun j hj=>by have:=(h7 j (by omega)).2.1;omega,fun j hj=>bl (h7 j (by omega)).2.2.2.1,h14⟩
 ·refine oB (n:=A.length-1) (fun i hi=>qY hi) (fun i hi=>?_) (by omega)
  have h:=a6 (ae A (i+1)) (by
   unfold ae
   rw [List.getD_eq_getElem?_getD,List.getElem?_eq_getElem (by omega)]
   exact List.getElem_mem _)
  rw [drv,Int.natAbs_mul,Int.natAbs_natCast]
  have h':(i+1)*(ae A (i+1)).natAbs<=10*(ae A (i+1)).natAbs:=Nat.mul_le_mul_right _ (by omega)
  omega
 ·obtain ⟨b1,b2,b3,b4,b5,b6,b7,b8⟩:=h8 j hj
  have c1:=h7 j (by omega)
  have c2:=h7 (j+1) (by omega)
  have hF:=C4 (dh _ _) (dh _ _) (h9 j hj).1 (h9 j hj).2
  exact ⟨b1,hF,oB (dh _ _).1 (h10 j hj) (by omega),bl b5,C5 (dh _ _) (dh _ _) (by omega) (by omega) (h11 j hj),hF▸oz (dh _ _) (dh _ _),b2,by first | omega | (dsimp only;omega),b7,hO (N:=20) (fun i hi=>dC (by omega)) (by omega) (h12 j hj).1,b8,by omega,fun i hi=>dC hi,hO (N:=20) (fun i hi=>dC (by omega)) (by omega) (h12 j hj).2,bl b6,fun h=>⟨h13 j hj,h⟩⟩
def c9 (l:List (List Int)) (j:Nat):List Int:=l.getD j []
theorem ZS:kx (ae [-2,5,-3,-1,1]) 5 3 2 4 2 2 2 2 (fun j=>ae (c9 [[-2,1,1],[-1,1],[-1,1],[1]] j)) (fun j=>ae (c9 [[2],[1],[]] j)) (fun j=>(c9 [[-2,1,1],[-1,1],[-1,1],[1]] j).length) (fun j=>(c9 [[2],[1],[]] j).length) (c9 [[4,2],[1],[],[]]) (fun j=>(ae (c9 [[2,1],[1],[-1,1]] j),(c9 [[2,1],[1],[-1,1]] j).length)) (ae [1,-2,1],3) (ae [5,4]) 2:=
 C6 (A:=[-2,5,-3,-1,1]) (C:=[1,-2,1]) (Q:=[5,4]) (LL:=c9 [[-2,1,1],[-1,1],[-1,1],[1]]) (QQ:=c9 [[2],[1],[]]) (RR:=c9 [[4,2],[1],[],[]]) (FF:=c9 [[2,1],[1],[-1,1]]) (m:=3) (K:=100) (u:=8) (v:=8) (by omega) (by omega)
  (by decide +kernel) (by decide +kernel) (by decide +kernel) (by decide +kernel) (by decide +kernel) (by decide +kernel) (by decide +kernel) (by decide +kernel) (by decide +kernel) (by decide +kernel) (by decide +kernel) (by decide +kernel) (by decide +kernel) (by decide +kernel)
theorem Rx:kx (ae [0,0,1]) 3 2 2 4 2 2 2 2 (fun j=>ae (c9 [[0,1],[0,1],[1]] j)) (fun j=>ae (c9 [[1],[]] j)) (fun j=>(c9 [[0,1],[0,1],[1]] j).length) (fun j=>(c9 [[1],[]] j).length) (c9 [[1],[],[]]) (fun j=>(ae (c9 [[1],[0,1]] j),(c9 [[1],[0,1]] j).length)) (ae [0,1],2) (ae [2]) 1:=
 C6 (A:=[0,0,1]) (C:=[0,1]) (Q:=[2]) (LL:=c9 [[0,1],[0,1],[1]]) (QQ:=c9 [[1],[]]) (RR:=c9 [[1],[],[]]) (FF:=c9 [[1],[0,1]]) (m:=2) (K:=100) (u:=8) (v:=8) (by omega) (by omega)
  (by decide +kernel) (by decide +kernel) (by decide +kernel) (by decide +kernel) (by decide +kernel) (by decide +kernel) (by decide +kernel) (by decide +kernel) (by decide +kernel) (by decide +kernel) (by decide +kernel) (by decide +kernel) (by decide +kernel) (by decide +kernel)
section
variable {Φ:PH}{p x k:Nat}
theorem Ry (hp:∀w v,Φ p w v->Rw 2 (Nf (ae [-2,5,-3,-1,1]) k) 5 w v) (hx:Φ x=Rw 2 (Nf (ae [-2,1,1]) 18) 3):ai Φ Tryz.prog ⟨26,[.fact p],[oS x],false⟩:=
 u9 (c:=5) (L:=[-2,1,1]) (fun w v h=>(hp w v h).to fun i w v _ h=>(af.re h ((pN (by decide) i).more (show 1<=2 by omega))).i) hx ZS (by decide +kernel) (by omega) (by omega) (by decide +kernel) (by decide +kernel)
theorem Rz (hp:∀w v,Φ p w v->Rw 2 (Nf (ae [0,0,1]) k) 3 w v) (hx:Φ x=Rw 2 (Nf (ae [1]) 10) 1):ai Φ Tryz.prog ⟨26,[.fact p],[oS x],false⟩:=
 u9 (c:=5) (L:=[1]) (fun w v h=>(hp w v h).to fun i w v _ h=>(af.re h ((pN (by decide) i).more (show 1<=2 by omega))).i) hx Rx (by decide +kernel) (by omega) (by omega) (by decide +kernel) (by decide +kernel)
end
def RA (z:Nat->Int) (n k kq:Nat):List WP:=[fun w v=>Rw 4 (fun ι w v=>aQ w v (((z ι:Int):Rat)) kq) n w v,Rw 2 (Nf z k) n]
def RE:List Step:=[.base ⟨46,[.fact 0,.fact 1],oT,false⟩]
def RF:List Out:=[oS 0,oS 1]
theorem RG {z:Nat->Int}{n k kq:Nat} (hn:n<=1000000) (hkq:kq<=500000) (hk:k<=500000):ai (ph (RA z n k kq)) Tryz.prog ⟨14,[.fact 0,.fact 1],oT,false⟩:=by
 skip
 exact aV RF oT RE Tryz.func14 (by kernel_rfl)
  (lB (RH (z:=z) (n:=n) (k:=k) (kq:=kq) ad ad (by omega) (by omega) (by omega))
   aw)
  (aL [.fact 0 (.one (.s)),.fact 1 (.one (.s))] ⟨Rw.Is 4 (fun ι w v=>aQ w v (((z ι:Int):Rat)) kq) n,Rw.Is 2 (Nf z k) n,trivial⟩) bc
section
variable {Φ:PH}{p q x n k kq p0 p1 p2 p3:Nat}{z:Nat->Int}
theorem nM (hp:∀w v,Φ p w v->Rw 4 (fun i w v=>aQ w v ((z i:Int):Rat) kq) n w v) (hq:∀w v,Φ q w v->Rw 2 (Nf z k) n w v) (hn:n<=1000000) (hkq:kq<=500000) (hk:k<=500000):ai Φ Tryz.prog ⟨14,[.fact p,.fact q],oT,false⟩:=
 aW (RG hn hkq hk) ⟨hp,hq,trivial⟩ ⟨⟨rfl,trivial⟩,trivial⟩
theorem RI {J:List Nat} (h0:∀w v,Φ p0 w v->Rw 2 (If (ae [-1,1]) 2) 2 w v) (h1:∀w v,Φ p1 w v->Rw 2 (If (ae [-1,1]) 2) 2 w v) (h2:∀w v,Φ p2 w v->Rw 2 (If (ae [-1,1]) 2) 2 w v) (h3:∀w v,Φ p3 w v->Rw 2 (If (ae [2,1]) 2) 2 w v) (hx:Φ x=Rw 1 (bf (fun i=>ae (c9 [[-1,1],[-1,1],[-1,1],[2,1]] i)) (fun i=>(c9 [[-1,1],[-1,1],[-1,1],[2,1]] i).length) 2) 4) :
  ai Φ Tryz.prog ⟨0,[.any,.fact p0,.fact p1,.fact p2,.fact p3],[oS x],.fresh J (cj 41 4)⟩:=
 fB (ps:=[p0,p1,p2,p3]) (sz:=1) (zc:=.one .nl) Tryz.underlying41 (by kernel_rfl) (by omega) (by kernel_rfl) (by omega) (by omega) rfl (fun i p h w v hv=>by
  match i,h with
  | 0,h=>
   obtain rfl:=Option.some.inj h
   exact ⟨by rw [fC (h0 w v hv)];rfl,v,by rw [fC (h0 w v hv)],h0 w v hv⟩
  | 1,h=>
   obtain rfl:=Option.some.inj h
   exact ⟨by rw [fC (h1 w v hv)];rfl,v,by rw [fC (h1 w v hv)],h1 w v hv⟩
  | 2,h=>
   obtain rfl:=Option.some.inj h
   exact ⟨by rw [fC (h2 w v hv)];rfl,v,by rw [fC (h2 w v hv)],h2 w v hv⟩
  | 3,h=>
   obtain rfl:=Option.some.inj h
   exact ⟨by rw [fC (h3 w v hv)];rfl,v,by rw [fC (h3 w v hv)],h3 w v hv⟩
  | i+4,h=>simp at h) hx
end
def RJ  : List WP:=[Ni (-1),Ni (1),fun w v=>Rw 1 (fun i _ v=>v = .agg #[.int .i64 (ae [-1,1] i)]) 2 w v,Rw 2 (Nf (ae ([-1,1])) 2) 2,fun w v=>Rw 1 (fun i _ v=>v = .agg #[.int .i64 (ae [-1,1] i)]) 2 w v,Rw 2 (Nf (ae ([-1,1])) 2) 2,fun w v=>Rw 1 (fun i _ v=>v = .agg #[.int .i64 (ae [-1,1] i)]) 2 w v,Rw 2 (Nf (ae ([-1,1])) 2) 2,Ni (2),fun w v=>Rw 1 (fun i _ v=>v = .agg #[.int .i64 (ae [2,1] i)]) 2 w v,Rw 2 (Nf (ae ([2,1])) 2) 2,Rw 1 (bf (fun i=>ae (c9 [[-1,1],[-1,1],[-1,1],[2,1]] i)) (fun i=>(c9 [[-1,1],[-1,1],[-1,1],[2,1]] i).length) 2) 4,Rw 2 (Nf (ae ([-2,5,-3,-1,1])) 34) 5,Ni (-2),fun w v=>Rw 1 (fun i _ v=>v = .agg #[.int .i64 (ae [-2,1,1] i)]) 3 w v,fun w v=>Rw 4 (fun ι w v=>aQ w v ((((ae ([-2,1,1])) ι:Int):Rat)) 6) 3 w v,Rw 2 (Nf (ae ([-2,1,1])) 18) 3,fun w v=>Rw 1 (fun i _ v=>v = .agg #[.int .i64 (ae [1] i)]) 1 w v,fun w v=>Rw 4 (fun ι w v=>aQ w v ((((ae ([1])) ι:Int):Rat)) 6) 1 w v,Ni (0),fun w v=>Rw 1 (fun i _ v=>v = .agg #[.int .i64 (ae [0,0,1] i)]) 3 w v,Rw 2 (Nf (ae ([0,0,1])) 2) 3,Rw 2 (Nf (ae ([1])) 10) 1]
def RK:List Step:=[.derive (.one (.ci .i64 (-1))) (.one (.lit (.ci .i64 (-1)))) [] 0,
   .derive (.one (.ci .i64 1)) (.one (.lit (.ci .i64 1))) [] 1,
   .derive (.one (.ci .i64 2)) (.one (.lit (.ci .i64 2))) [] 8,
   .base ⟨0,[.any,.fact 0,.fact 1],[oS 2],.fresh [] (cj 22 2)⟩,
   .base ⟨27,[.fact 2],[oS 3],false⟩,
   .base ⟨0,[.any,.fact 0,.fact 1],[oS 4],.fresh [] (cj 22 2)⟩,
   .base ⟨27,[.fact 4],[oS 5],false⟩,
   .base ⟨0,[.any,.fact 0,.fact 1],[oS 6],.fresh [] (cj 22 2)⟩,
   .base ⟨27,[.fact 6],[oS 7],false⟩,
   .base ⟨0,[.any,.fact 8,.fact 1],[oS 9],.fresh [] (cj 22 2)⟩,
   .base ⟨27,[.fact 9],[oS 10],false⟩,
   .base ⟨0,[.any,.fact 3,.fact 5,.fact 7,.fact 10],[oS 11],.fresh [] (cj 41 4)⟩,
   .base ⟨36,[.fact 11],[oS 12],false⟩,
   .derive (.one (.ci .i64 (-2))) (.one (.lit (.ci .i64 (-2)))) [] 13,
   .derive (.one (.ci .i64 0)) (.one (.lit (.ci .i64 0))) [] 19,
   .base ⟨0,[.any,.fact 13,.fact 1,.fact 1],[oS 14],.fresh [] (cj 22 3)⟩,
   .base ⟨28,[.fact 14],[oS 15],false⟩,
   .base ⟨26,[.fact 12],[oS 16],false⟩,
   .base ⟨14,[.fact 15,.fact 16],oT,false⟩,
   .base ⟨0,[.any,.fact 1],[oS 17],.fresh [] (cj 22 1)⟩,
   .base ⟨28,[.fact 17],[oS 18],false⟩,
   .base ⟨0,[.any,.fact 19,.fact 19,.fact 1],[oS 20],.fresh [] (cj 22 3)⟩,
   .base ⟨27,[.fact 20],[oS 21],false⟩,
   .base ⟨26,[.fact 21],[oS 22],false⟩,
   .base ⟨14,[.fact 18,.fact 22],oT,false⟩]
def RM:List Out:=[]
theorem RN   : ai (ph (RJ )) Tryz.prog ⟨18,[],oT,false⟩:=by
 skip
 exact aV RM oT RK Tryz.func18 (by kernel_rfl)
  (ec (ij rfl)
   (ec (ij rfl)
   (ec (ij rfl)
   (lB (fB (ps:=[0,1]) (sz:=1) (n:=2) (F:=(fun i _ v=>v = .agg #[.int .i64 (ae [-1,1] i)])) (zc:=.one (.ci .i64 0)) Tryz.underlying22 (by kernel_rfl) (by omega) (by kernel_rfl) (by omega) (by omega) rfl (nE ad ad) rfl)
   (lB (gO (z:=ae [-1,1]) (n:=2) (zs:=[-1,1]) ad rfl (by omega) (iN (by decide)) (by decide))
   (lB (fB (ps:=[0,1]) (sz:=1) (n:=2) (F:=(fun i _ v=>v = .agg #[.int .i64 (ae [-1,1] i)])) (zc:=.one (.ci .i64 0)) Tryz.underlying22 (by kernel_rfl) (by omega) (by kernel_rfl) (by omega) (by omega) rfl (nE ad ad) rfl)
   (lB (gO (z:=ae [-1,1]) (n:=2) (zs:=[-1,1]) ad rfl (by omega) (iN (by decide)) (by decide))
   (lB (fB (ps:=[0,1]) (sz:=1) (n:=2) (F:=(fun i _ v=>v = .agg #[.int .i64 (ae [-1,1] i)])) (zc:=.one (.ci .i64 0)) Tryz.underlying22 (by kernel_rfl) (by omega) (by kernel_rfl) (by omega) (by omega) rfl (nE ad ad) rfl)
   (lB (gO (z:=ae [-1,1]) (n:=2) (zs:=[-1,1]) ad rfl (by omega) (iN (by decide)) (by decide))
   (lB (fB (ps:=[8,1]) (sz:=1) (n:=2) (F:=(fun i _ v=>v = .agg #[.int .i64 (ae [2,1] i)])) (zc:=.one (.ci .i64 0)) Tryz.underlying22 (by kernel_rfl) (by omega) (by kernel_rfl) (by omega) (by omega) rfl (nE ad ad) rfl)
   (lB (gO (z:=ae [2,1]) (n:=2) (zs:=[2,1]) ad rfl (by omega) (iN (by decide)) (by decide))
   (lB (RI (Rw.To 2 (Nf (ae ([-1,1])) 2) 2 (fun _ _ _ _ h=>af.i h)) (Rw.To 2 (Nf (ae ([-1,1])) 2) 2 (fun _ _ _ _ h=>af.i h)) (Rw.To 2 (Nf (ae ([-1,1])) 2) 2 (fun _ _ _ _ h=>af.i h)) (Rw.To 2 (Nf (ae ([2,1])) 2) 2 (fun _ _ _ _ h=>af.i h)) rfl)
   (lB (C3 (zz:=fun i=>ae (c9 [[-1,1],[-1,1],[-1,1],[2,1]] i)) (ln:=fun i=>(c9 [[-1,1],[-1,1],[-1,1],[2,1]] i).length) (n:=4) (k:=2) (c:=5) (L:=[-2,5,-3,-1,1]) ad rfl (by omega) (by omega) (by omega) (by omega) (by decide +kernel) (by decide +kernel) (by decide +kernel))
   (ec (ij rfl)
   (ec (ij rfl)
   (lB (fB (ps:=[13,1,1]) (sz:=1) (n:=3) (F:=(fun i _ v=>v = .agg #[.int .i64 (ae [-2,1,1] i)])) (zc:=.one (.ci .i64 0)) Tryz.underlying22 (by kernel_rfl) (by omega) (by kernel_rfl) (by omega) (by omega) rfl (xY ad ad ad) rfl)
   (lB (tL (z:=ae [-2,1,1]) (n:=3) (L:=[-2,1,1]) ad rfl (by omega) (iN (by decide)) (by decide))
   (lB (Ry (k:=34) ad rfl)
   (lB (nM (z:=(ae ([-2,1,1]))) (n:=3) (k:=18) (kq:=6) ad ad (by omega) (by omega) (by omega))
   (lB (fB (ps:=[1]) (sz:=1) (n:=1) (F:=(fun i _ v=>v = .agg #[.int .i64 (ae [1] i)])) (zc:=.one (.ci .i64 0)) Tryz.underlying22 (by kernel_rfl) (by omega) (by kernel_rfl) (by omega) (by omega) rfl (pO ad) rfl)
   (lB (tL (z:=ae [1]) (n:=1) (L:=[1]) ad rfl (by omega) (iN (by decide)) (by decide))
   (lB (fB (ps:=[19,19,1]) (sz:=1) (n:=3) (F:=(fun i _ v=>v = .agg #[.int .i64 (ae [0,0,1] i)])) (zc:=.one (.ci .i64 0)) Tryz.underlying22 (by kernel_rfl) (by omega) (by kernel_rfl) (by omega) (by omega) rfl (xY ad ad ad) rfl)
   (lB (gO (z:=ae [0,0,1]) (n:=3) (zs:=[0,0,1]) ad rfl (by omega) (iN (by decide)) (by decide))
   (lB (Rz (k:=2) ad rfl)
   (lB (nM (z:=(ae ([1]))) (n:=1) (k:=10) (kq:=6) ad ad (by omega) (by omega) (by omega))
   aw)))))))))))))))))))))))))
  (aL [] trivial) bc
theorem z6 {Φ:PH}:ai Φ Tryz.prog ⟨18,[],oT,false⟩:=aW RN trivial ⟨⟨rfl,trivial⟩,trivial⟩
section
variable {Φ:PH}{p q x n k k2 k0:Nat}{z y:Nat->Int}
theorem kv {f:FuncId}{ar:List Arg}{sz:Nat}{F:PH} (h:ai Φ Tryz.prog ⟨f,ar,[⟨.one (.lit .nl),[]⟩],false⟩) (hx:Φ x=Rw sz F 0):ai Φ Tryz.prog ⟨f,ar,[oS x],false⟩:=
 fun X w vs hX hag=>(h X w vs hX hag).mono fun e w' ⟨hg,us,he,ho⟩=>⟨hg,us,he,by
  match us,ho with
  | [u],ho=>
   have hu:u = .slice none 0 0:=ho.1.1.1
   subst hu
   refine ⟨⟨Rw.is (sz:=sz) (F:=F) (n:=0) (Rw.nil sz F w'),fun f hf w1 hw1=>?_⟩,trivial⟩
   simp only [List.mem_singleton] at hf
   subst hf
   show Φ x w1 (.slice none 0 0)
   rw [hx]
   exact Rw.nil sz F w1⟩
theorem jL {s:(Nat->Int)×Nat} (h:Vz s) (h0:s.2=0) (k i:Nat):Bd (s.1 i).natAbs k:=by
 rw [h.1 i (by omega)]
 exact Nat.pow_pos (by omega)
theorem tS {z2:Nat->Int}{n2:Nat} (hp:∀w v,Φ p w v->Rw 1 (bf (cl z y z2) (cl 0 0 n2) k) 2 w v) (hx:Φ x=Rw 2 (Nf (fun _=>0) 2) 0) (hk:k<=100):ai Φ Tryz.prog ⟨15,[.fact p],[oS x],false⟩:=by
 refine aW (mH (Φ:=ph [Rw 1 (bf (cl z y z2) (cl 0 0 n2) k) 2,Rw 2 (Nf ((cmn (pri z 0) (pri y 0)).1) 2) (cmn (pri z 0) (pri y 0)).2]) (p:=0) (x:=1) (z0:=z) (z1:=y) (z2:=z2) (n0:=0) (n1:=0) (n2:=n2) (k:=k) ad rfl (by omega) (by omega) hk (jL (dh _ _) rfl 2) (jL (dh y 0) rfl 2) ⟨Nat.zero_le _,Nat.zero_le _,fun h=>absurd h (by show ¬2<=0;omega)⟩) ⟨hp,trivial⟩ ⟨⟨rfl,⟨rfl,rfl,fun w v h=>?_⟩,trivial⟩,trivial⟩
 have h':Rw 2 (Nf ((cmn (pri z 0) (pri y 0)).1) 2) 0 w v:=h
 rw [hx]
 exact h'.to fun i w v hi h=>by omega
theorem Km (hp:∀w v,Φ p w v->Rw 2 (If z k) 0 w v) (hq:∀w v,Φ q w v->Rw 2 (If y k2) 0 w v) (hk:k<=90) (hk2:k2<=90):ai Φ Tryz.prog ⟨16,[.fact p,.fact q],oF,false⟩:=
 aW (QW (a:=z) (b:=y) (la:=0) (lb:=0) (ka:=k) (kb:=k2) (k:=90) (k2:=2) (by omega) (by omega) hk hk2 (by omega) (jL (dh _ _) rfl 2) (jL (dh y 0) rfl 2) ⟨Nat.zero_le _,Nat.zero_le _,fun h=>absurd h (by show ¬2<=0;omega)⟩ (by show 0<=1000;omega) (by show 0≠1;omega)) ⟨hp,hq,trivial⟩ ⟨⟨rfl,trivial⟩,trivial⟩
theorem Kn (hp:∀w v,Φ p w v->Rw 2 (If z k) 0 w v) (hk:k<=90):ai Φ Tryz.prog ⟨24,[.fact p],[⟨.one (.lit .nl),[]⟩],false⟩:=
 aW (QZ (z:=z) (n:=0) (k:=k) (k2:=2) (by omega) hk (jL (dh _ _) rfl 2) (jL (uT z 0) rfl 2) ⟨Nat.zero_le _,Nat.zero_le _,fun h=>absurd h (by show ¬2<=0;omega)⟩ (by omega) (by show 0<=1000;omega) rfl) ⟨hp,trivial⟩ ⟨⟨rfl,trivial⟩,trivial⟩
end
def Ra (z:Nat->Int) (k:Nat):List WP:=[Rw 2 (If z k) 0,Rw 2 (Nf (drv z) (2+k)) 0,Rw 1 (bf (cl z (drv z) (drv z)) (cl 0 0 0) (2+k)) 2,Rw 2 (Nf (fun _=>0) 2) 0,Rw 2 (Nf (fun _=>0) 1) 0,Rw 2 (Nf (drv (fun _=>0)) (2+1)) 0,Rw 2 (Nf (ae []) 2) 0,Ni (-1)]
def Rl:List Step:=[.base ⟨30,[.fact 0],[oS 1],false⟩,
   .base ⟨0,[.any,.fact 0,.fact 1],[oS 2],.fresh [] (cj 41 2)⟩,
   .base ⟨15,[.fact 2],[oS 3],false⟩,
   .base ⟨56,[.fact 0,.fact 3],[⟨.one (.lit (.nl)),[]⟩],false⟩,
   .derive (.one (.nl)) (.one (.lit (.nl))) [] 4,
   .base ⟨56,[.fact 1,.fact 3],[⟨.one (.lit (.nl)),[]⟩],false⟩,
   .base ⟨30,[.fact 4],[oS 5],false⟩,
   .base ⟨57,[.fact 4,.fact 5],[oS 6],false⟩,
   .rounds 1,
   .base ⟨49,[.fact 4],[oN 7],false⟩,
   bQ [.fact 7,.lit (.ci .i64 0)] oF (ak .gtr)]
def Rn:List Out:=[oS 0]
theorem Rp {z:Nat->Int}{k:Nat} (hk:k<=90):ai (ph (Ra z k)) Tryz.prog ⟨22,[.fact 0],[⟨.one (.lit (.nl)),[]⟩],false⟩:=by
 skip
 exact aV Rn [⟨.one (.lit (.nl)),[]⟩] Rl Tryz.func22 (by kernel_rfl)
  (lB (oA (z:=z) (n:=0) (k:=k) (Rw.To 2 (If z k) 0 (fun _ _ _ _ h=>h)) rfl (by omega) (by omega) rfl)
   (lB (ko (fun w v h=>fh ((Rw.To 2 (If z k) 0 (fun _ _ _ _ h=>h)) w v h) (by omega)) (fun w v h=>fh ((Rw.To 2 (Nf (drv z) (2+k)) 0 (fun _ _ _ _ h=>af.i h)) w v h) (by omega)) rfl)
   (lB (tS ad rfl (by omega))
   (lB (ll (z:=z) (n0:=0) (k:=k) (y:=(fun _=>0)) (n1:=0) (k1:=2) (Rw.To 2 (If z k) 0 (fun _ _ _ _ h=>h)) (Rw.To 2 (Nf (fun _=>0) 2) 0 (fun _ _ _ _ h=>af.i h)) (by omega) (by omega) (by omega) (by omega) rfl)
   (ec (tK (F:=Nf (fun _=>0) 1) rfl)
   (lB (ll (z:=(drv z)) (n0:=0) (k:=(2+k)) (y:=(fun _=>0)) (n1:=0) (k1:=2) (Rw.To 2 (Nf (drv z) (2+k)) 0 (fun _ _ _ _ h=>af.i h)) (Rw.To 2 (Nf (fun _=>0) 2) 0 (fun _ _ _ _ h=>af.i h)) (by omega) (by omega) (by omega) (by omega) rfl)
   (lB (oA (z:=(fun _=>0)) (n:=0) (k:=1) (Rw.To 2 (Nf (fun _=>0) 1) 0 (fun _ _ _ _ h=>af.i h)) rfl (by omega) (by omega) rfl)
   (lB (uX (L:=[]) (kR:=2) (z:=(fun _=>0)) (n:=0) (k:=1) (y:=(drv (fun _=>0))) (m:=0) (l:=(2+1)) (Rw.To 2 (Nf (fun _=>0) 1) 0 (fun _ _ _ _ h=>af.i h)) (Rw.To 2 (Nf (drv (fun _=>0)) (2+1)) 0 (fun _ _ _ _ h=>af.i h)) rfl (by omega) (by omega) (by omega) (by omega) ⟨rfl,fun i=>Nat.pow_pos (by omega)⟩)
   (mE (lB (iL (n:=0) (fun _ _ h=>Rw.iM (sz:=2) (F:=(Nf (fun _=>0) 1)) (n:=0) h) rfl (by omega) (rfl))
   (lB (bW (op:=.gtr) ad (bN (rfl) (by simp)))
   aw)))))))))))
  (aL [.fact 0 (.one (.s))] ⟨Rw.Is 2 (If z k) 0,trivial⟩) bc
def dE:(Nat->Int)×Nat:=(fun i=>if i=0 then 1 else 0,1)
theorem ma {s:(Nat->Int)×Nat} (h:Vz s) (h1:s.2=1):s=dE:=by
 have h0:0<s.2:=by rw [h1];omega
 have h2:=(h.2 h0).1
 rw [h1] at h2
 exact Prod.ext (funext fun i=>yY (h.2 h0).2 h2 (fun i hi=>h.1 i (by rw [h1];omega)) i) h1
theorem mb (i:Nat):dE.1 i=ae [1] i:=by
 match i with
 | 0=>rfl
 | i+1=>rw [dC (by simp)];exact (if_neg (Nat.succ_ne_zero i):(if i+1=0 then (1:Int) else 0)=0)
theorem jm {k:Nat} (hk:1<=k) (i:Nat):Bd (dE.1 i).natAbs k:=by
 rw [mb]
 exact (pN (by decide) i).more hk
theorem mc (f:Nat->Int) (i:Nat):f i=conv f dE.1 i:=by
 have h:=gu (f:=upto (i+1) f) (g:=dE.1) (i:=i) (k:=0) (fun j hj=>if_neg (by omega)) (fun j hj=>if_neg (by omega))
 have h:conv (upto (i+1) f) dE.1 i=upto (i+1) f i*dE.1 0:=h
 rw [jZ (f':=upto (i+1) f) (g':=dE.1) (fun j hj=>by unfold upto;rw [if_pos (by omega)]) fun _ _=>rfl,h]
 unfold upto
 rw [if_pos (by omega)]
 exact (Int.mul_one _).symm
section
variable {Φ:PH}{p q x n k k2 k0:Nat}{z y:Nat->Int}{c:Int}
theorem ki (hc:c≠0):tl (ae [c]) 1=1:=iO fun _=>hc
theorem eE (hc:c≠0):pri (ae [c]) 1=dE:=ma (dh _ _) (ki hc)
theorem ve (c:Int) (i:Nat):drv (ae [c]) i=0:=qY (A:=[c]) (Nat.zero_le _)
theorem nO {s t:(Nat->Int)×Nat} (hs:s=dE) (ht:t.2=0∨0<t.2):cmn s t=dE:=by
 subst hs
 unfold cmn
 rw [if_neg (show ¬dE.2=0 by show ¬(1:Nat)=0;omega)]
 rcases ht with h | h
 ·rw [if_pos h]
 ·rw [if_neg (by omega),if_pos (.inl rfl)];rfl
theorem ra {t:(Nat->Int)×Nat} (ht:t.2<=1000):fZ dE t k k2:=⟨by show 1<=1000;omega,ht,fun h=>absurd h (by show ¬2<=1;omega)⟩
theorem vf (hc:c.natAbs<18446744073709551616) (i:Nat):Bd (ae [c] i).natAbs 2:=by
 match i with
 | 0=>show c.natAbs<4294967296 ^ 2;omega
 | i+1=>rw [dC (by simp)];exact Nat.pow_pos (by omega)
theorem Ky (hp:∀w v,Φ p w v->Rw 1 (bf (cl (ae [c]) z y) (cl 1 n k0) k) 1 w v) (hx:Φ x=Rw 2 (Nf (ae [1]) 2) 1) (hk:k<=100) (hc:c≠0):ai Φ Tryz.prog ⟨15,[.fact p],[oS x],false⟩:=by
 refine aW (QI (Φ:=ph [Rw 1 (bf (cl (ae [c]) z y) (cl 1 n k0) k) 1,fun w v=>Rw 2 (fun i w v=>af w v ((pri (ae [c]) 1).1 i) 2) (pri (ae [c]) 1).2 w v]) (p:=0) (x:=1) ad rfl (by omega) hk (by rw [eE hc];exact jm (by omega))) ⟨hp,trivial⟩ ⟨⟨rfl,⟨rfl,rfl,fun w v h=>?_⟩,trivial⟩,trivial⟩
 have h':Rw 2 (Nf ((pri (ae [c]) 1).1) 2) (pri (ae [c]) 1).2 w v:=h
 rw [eE hc] at h'
 rw [hx]
 exact Rw.to (n:=1) h' fun i w v hi h=>h.eq (mb i)
theorem Kz (hp:∀w v,Φ p w v->Rw 2 (If (ae [c]) k) 1 w v) (hq:∀w v,Φ q w v->Rw 2 (If y k2) n w v) (hk:k<=90) (hk2:k2<=90) (hn:n<=1000) (hc:c≠0):ai Φ Tryz.prog ⟨16,[.fact p,.fact q],oT,false⟩:=by
 have e:cmn (pri (ae [c]) 1) (pri y n)=dE:=nO (eE hc) (Nat.eq_zero_or_pos _)
 exact aW (QR (a:=ae [c]) (b:=y) (la:=1) (lb:=n) (ka:=k) (kb:=k2) (k:=90) (k2:=2) (by omega) hn hk hk2 (by omega) (by rw [eE hc];exact jm (by omega)) (by rw [e];exact jm (by omega)) (by rw [eE hc];exact ra (Nat.le_trans (aF _ _) hn)) (by rw [e];show 1<=1000;omega) (by rw [e];rfl)) ⟨hp,hq,trivial⟩ ⟨⟨rfl,trivial⟩,trivial⟩
theorem Rq (hc:c≠0):cT (ae [c]) 1=dE:=by
 unfold cT
 refine nO ?_ (Nat.eq_zero_or_pos _)
 rw [eE hc]
 exact ma (dh _ _) (iO fun _=>by decide)
theorem KA (hp:∀w v,Φ p w v->Rw 2 (If (ae [c]) k) 1 w v) (hx:Φ x=Rw 2 (Nf (ae [1]) 2) 1) (hk:1<=k∧k<=90) (hc:c≠0):ai Φ Tryz.prog ⟨24,[.fact p],[oS x],false⟩:=by
 have e:=Rq hc
 have e1:=eE hc
 have e2:pri (pri (ae [c]) 1).1 (pri (ae [c]) 1).2=dE:=by rw [e1];exact ma (dh _ _) (iO fun _=>by decide)
 refine aW (psq (z:=ae [c]) (q:=dE.1) (n:=1) (k:=k) (k2:=2) (kg:=2) (by omega) hk.2 (by rw [e2];exact jm (by omega)) (by rw [e];exact jm (by omega)) (by rw [e2];exact ra (Nat.le_trans (aF _ _) (by rw [e1];have:=aF dE.1 dE.2;have:dE.2=1:=rfl;omega))) (by omega) (by rw [e];show 1<=1000;omega) (by rw [e1];exact jm hk.1) (by rw [e];show 0<1;omega) (by
  rw [e,e1]
  intro i hi
  have hi':1+1-1<=i:=hi
  exact if_neg (by omega)) (by rw [e,e1];exact mc _) (jm (by omega)) (by rw [e1];show k+(1+1)*(2+1)<=90000;omega)) ⟨hp,trivial⟩ ⟨⟨rfl,⟨rfl,rfl,fun w v h=>?_⟩,trivial⟩,trivial⟩
 have h':Rw 2 (Nf dE.1 2) ((pri (ae [c]) 1).2+1-(cT (ae [c]) 1).2) w v:=h
 rw [e,e1] at h'
 rw [hx]
 exact Rw.to (n:=1) h' fun i w v hi h=>h.eq (mb i)
theorem vg (hc:c≠0) (hb:c.natAbs<18446744073709551616):kx (ae [c]) 1 0 2 4 2 2 2 2 (fun _=>ae [c]) (fun _ _=>0) (fun _=>1) (fun _=>0) (fun _=>[]) (fun _=>(fun _=>0,0)) dE (fun _=>0) 0:=by
 have hz:∀k,∀i:Nat,Bd ((fun _:Nat=>(0:Int)) i).natAbs k:=fun k i=>Nat.pow_pos (by omega)
 have e:cmn (pri (ae [c]) 1) (pri (drv (ae [c])) (1-1))=dE:=nO (eE hc) (Nat.eq_zero_or_pos _)
 have hd:drv (ae [c])=fun _=>0:=funext (ve c)
 refine ⟨⟨by omega,ki hc,fun i hi=>dC hi,vf hb,fun i _=>ve c i,rfl,by rw [hd];exact hz 4,e,by rw [eE hc];exact jm (by omega),jm (by omega),by rw [eE hc];exact ra (Nat.le_trans (aF _ _) (by omega)),CH,by show 0<1;omega,by show 1<=800;omega,rfl,mc _,rfl,fun _ _=>rfl,by rw [hd];exact mc _,hz 2,by omega,fun h=>⟨rfl,h⟩⟩,fun j hj=>absurd hj (Nat.not_lt_zero j),by omega,by omega,by omega,by omega,by omega,by omega,by omega,fun j _ i hi=>dC hi,fun j _=>ki hc,fun j _=>by omega,fun j _=>vf hb,fun j _=>rfl,fun j _=>by simp,fun j _ i=>Nat.pow_pos (by omega),by omega⟩
theorem KC (hp:∀w v,Φ p w v->Rw 2 (If (ae [c]) 2) 1 w v) (hx:Φ x=Rw 1 (bf (fun _ _=>0) (fun _=>0) 2) 0) (hc:c≠0) (hb:c.natAbs<18446744073709551616):ai Φ Tryz.prog ⟨22,[.fact p],[oS x],false⟩:=
 CW hp hx (vg hc hb)
theorem Kq (hp:∀w v,Φ p w v->Rw 2 (If z k) 0 w v) (hk:k<=90):ai Φ Tryz.prog ⟨22,[.fact p],[⟨.one (.lit .nl),[]⟩],false⟩:=
 aW (Rp hk) ⟨hp,trivial⟩ ⟨⟨rfl,trivial⟩,trivial⟩
theorem KB (hp:∀w v,Φ p w v->Rw 2 (If (ae [c]) 2) 1 w v) (hx:Φ x=Rw 2 (Nf (ae [1]) 2) 1) (hc:c≠0) (hb:c.natAbs<18446744073709551616):ai Φ Tryz.prog ⟨26,[.fact p],[oS x],false⟩:=
 u9 (c:=1) (L:=[1]) hp hx (vg hc hb) (by rw [cD,ki hc,if_neg (by omega)];exact hc) (by omega) (by omega) (fun j hj=>absurd hj (by omega)) rfl
end
end Go.Proofs.YtbokonbbokhjlaaGreat.Sym
