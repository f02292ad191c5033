/- poly.Same where it is no -/
import Derived.Test.YtbjfgffibepmkaaGreatPrS
import Derived.Test.YtbjfgffibepmkaaGreatPrQ
set_option maxRecDepth 100000
namespace Go.Proofs.YtbjfgffibepmkaaGreat.Sym
open Go.Proofs.Tryz
open Go.RowKit
variable {x0 x1 y y0 y1 z:Nat->Int}{K M N k l m m0 m1 n n0 n1:Nat}{a b d d0 d1 e:Int}{u0 u1 v0 v1:Nat->Rat}
theorem Tj {z y:Int} (h:z≠y):¬dG z y=0:=by
 unfold dG
 split <;> (try split) <;> omega
def Tk (z y:Int) (k l:Nat):List WP:=[Iw z k,Iw y l,Ni (dG z y)]
def Tm:List Step:=[.base ⟨138,[0,1],[oN 2],false⟩,bQ [2,.lit (.ci .i64 0)] oF (au .eql)]
def Tq:List Out:=[oI 0,oI 1]
theorem Ts {z y:Int} (hk:k<=400000) (hl:l<=400000) (h:z≠y):aj (ph (Tk z y k l)) prog ⟨137,[0,1],oF,false⟩:=aQ Tq oF Tm func137 (by kernel_rfl) (lB (mf iI iI rfl rfl) (lB (cB (op:=.eql) ad (cj (decide_eq_false (Tj h)) (by simp))) aD))
  (aM [.fact 0 (.agg [.b,.s]),.fact 1 (.agg [.b,.s])] ⟨fun _ _ h=>aF.is h,fun _ _ h=>aF.is h,trivial⟩) aV
section
variable {Φ:PH}{p q:Nat}{z y:Int}
theorem Tu (hp:∀w v,Φ p w v->aF w v z k) (hq:∀w v,Φ q w v->aF w v y l) (h:z≠y) (hk:k<=400000:=by omega) (hl:l<=400000:=by omega):aj Φ prog ⟨137,[.fact p,.fact q],oF,false⟩:=
 aT (Ts hk hl h) ⟨hp,hq,trivial⟩ ⟨⟨rfl,trivial⟩,trivial⟩
theorem Tv (hp:∀w v,Φ p w v->aF w v z k) (hq:∀w v,Φ q w v->aF w v y l) (h:z=y) (hk:k<=400000:=by omega) (hl:l<=400000:=by omega):aj Φ prog ⟨137,[.fact p,.fact q],oT,false⟩:=by
 subst h
 exact zt hp hq hk hl
end
def Tw (z y:Nat->Int) (n m k l:Nat):List WP:=[Rw 2 (If z k) n,Rw 2 (If y l) m,Nz n,Nz m]
def TJ:List Step:=[bQ [0] [oN 2] (aK 24),bQ [1] [oN 3] (aK 24),bQ [2,3] oT (au .neq)]
def TK:List Out:=[oS 0,oS 1,⟨.one (.lit (.fn 137)),[]⟩]
theorem TM  (hn:n≠m):aj (ph (Tw z y n m k l)) prog ⟨136,[0,1,.lit (.fn 137)],oF,false⟩:=aQ TK oF TJ func136 (by kernel_rfl) (lB (aS (F:=(If z k)) underlying24 ad rfl) (lB (aS (F:=(If y l)) underlying24 ad rfl) (lB (iH (op:=.neq) ad ad (cj (decide_eq_true (by omega)) (by simp))) aD)))
  (aM [.fact 0 (.one (.s)),.fact 1 (.one (.s)),.lit (.fn 137)] ⟨Rw.Is 2 (If z k) n,Rw.Is 2 (If y l) m,(fun _ h=>by cases h),trivial⟩) aV
def vo (z y:Nat->Int) (n k l:Nat):List WP:=[Rw 2 (If z k) n,Rw 2 (If y l) n,Nz n,Nz n,Nz n]
def TN (z y:Nat->Int) (k l:Nat) (j:Nat):List WP:=[Nz j,Ptr 2 (Iw (z j) k),Iw (z j) k,Ptr 2 (Iw (y j) l),Iw (y j) l,Nz (j+1),Ptr 2 (Iw (z j) k),Iw (z j) k,Ptr 2 (Iw (y j) l),Iw (y j) l]
def Ua:bJ:=⟨[0,1,2,6,10,11,12,13,14,15,16],[(.slot 17,.i)],[(.one 0,5)],[.closed (.one (.ci .i64 0))],5,[]⟩
def zx:List Step:=[bQ [5,4] oT (au .lss),bQ [0,5] [oP 6] (aN 24),bQ [6] [oI 7] (aO 27),bQ [1,5] [oP 8] (aN 24),bQ [8] [oI 9] (aO 27),.base ⟨137,[7,9],oT,false⟩,bQ [5,.lit (.ci .i64 1)] [oN 10] (au .add)]
def Ub:List Step:=[bQ [5,4] oT (au .lss),bQ [0,5] [oP 11] (aN 24),bQ [11] [oI 12] (aO 27),bQ [1,5] [oP 13] (aN 24),bQ [13] [oI 14] (aO 27),.base ⟨137,[12,14],oF,false⟩]
def Uc:List Step:=[bQ [0] [oN 2] (aK 24),bQ [1] [oN 3] (aK 24),bQ [2,3] oF (au .neq),bQ [0] [oN 4] (aK 24),.loop Ua [(zx,[.frm 10])] Ub]
def Ud:List Out:=[oS 0,oS 1,⟨.one (.lit (.fn 137)),[]⟩]
theorem UL {t:Nat} (hn:n<=1000000) (hk:k<=400000) (hl:l<=400000) (ht:t<n) (hs:∀i,i<t->z i=y i) (ht2:z t≠y t):aj (ph (vo z y n k l)) prog ⟨136,[0,1,.lit (.fn 137)],oF,false⟩:=aQ Ud oF Uc func136 (by kernel_rfl) (lB (aS (F:=(If z k)) underlying24 ad rfl) (lB (aS (F:=(If y l)) underlying24 ad rfl) (lB (iH (op:=.neq) ad ad (cj (decide_eq_false (fun h=>h rfl)) (by simp))) (lB (aS (F:=(If z k)) underlying24 ad rfl) (cm (counted t (fun j=>ph (vo z y n k l ++ TN z y k l j)) (fun _=>0) (fun j p hp=>cn (show p<(vo z y n k l).length from hp)) ⟨fun _=>rfl,trivial⟩ (fun j hj=>by
   skip
   exact ⟨(zx,[.frm 10]),rfl,⟨ad,trivial⟩,(lB (bH ad ad) (lB (co (i:=j) (F:=(If z k)) underlying24 ad ad rfl) (lB (cU (sz:=2) (F:=Iw (z j) k) ad (fun _ _ _ g h=>aF.kp h g) (fun _ _ h=>aF.is h) rfl) (lB (co (i:=j) (F:=(If y l)) underlying24 ad ad rfl) (lB (cU (sz:=2) (F:=Iw (y j) l) ad (fun _ _ _ g h=>aF.kp h g) (fun _ _ h=>aF.is h) rfl) (lB (Tv iI iI (hs j hj)) (lB (ct ad rfl) aD)))))))⟩) (lB (bH ad ad) (lB (co (i:=(t)) (F:=(If z k)) underlying24 ad ad rfl) (lB (cU (sz:=2) (F:=Iw (z (t)) k) ad (fun _ _ _ g h=>aF.kp h g) (fun _ _ h=>aF.is h) rfl) (lB (co (i:=(t)) (F:=(If y l)) underlying24 ad ad rfl) (lB (cU (sz:=2) (F:=Iw (y (t)) l) ad (fun _ _ _ g h=>aF.kp h g) (fun _ _ h=>aF.is h) rfl) (lB (Tu iI iI (ht2)) aD))))))
   (fun q hq=>by cases hq)) aD)))))
  (aM [.fact 0 (.one (.s)),.fact 1 (.one (.s)),.lit (.fn 137)] ⟨Rw.Is 2 (If z k) n,Rw.Is 2 (If y l) n,(fun _ h=>by cases h),trivial⟩) aV
section
variable {Φ:PH}{p q:Nat}
theorem UM (hp:∀w v,Φ p w v->Rw 2 (If z k) n w v) (hq:∀w v,Φ q w v->Rw 2 (If y l) m w v) (h:n≠m∨∃t,t<n∧(∀i,i<t->z i=y i)∧z t≠y t) (hn:n<=1000000:=by omega) (hk:k<=400000:=by omega) (hl:l<=400000:=by omega):aj Φ prog ⟨136,[.fact p,.fact q,.lit (.fn 137)],oF,false⟩:=by
 by_cases hm:n=m
 ·subst hm
  obtain ⟨t,h1,h2,h3⟩:=h.resolve_left (fun h=>h rfl)
  exact aT (UL hn hk hl h1 h2 h3) ⟨hp,hq,rfl,trivial⟩ ⟨⟨rfl,trivial⟩,trivial⟩
 ·exact aT (TM (z:=z) (y:=y) (k:=k) (l:=l) hm) ⟨hp,hq,rfl,trivial⟩ ⟨⟨rfl,trivial⟩,trivial⟩
end
theorem zy {z y:Nat->Int}:∀{n:Nat},(¬∀i,i<n->z i=y i)->∃t,t<n∧(∀i,i<t->z i=y i)∧z t≠y t
 | 0,h=>absurd (fun i hi=>by omega) h
 | n+1,h=>by
  by_cases h1:∀i,i<n->z i=y i
  ·refine ⟨n,by omega,h1,fun e=>h fun i hi=>?_⟩
   rcases Nat.lt_or_ge i n with h2 | h2
   ·exact h1 i h2
   ·obtain rfl:i=n:=by omega
    exact e
  ·obtain ⟨t,h2,h3⟩:=zy h1
   exact ⟨t,by omega,h3⟩
theorem UN  (h:¬∀i,upto n z i=upto m y i):tl z n≠tl y m∨∃t,t<tl z n∧(∀i,i<t->z i=y i)∧z t≠y t:=by
 by_cases h1:tl z n=tl y m
 ·refine .inr (zy fun h2=>h fun i=>?_)
  have a:=bi z n
  have b:=bi y m
  rcases Nat.lt_or_ge i (tl z n) with h3 | h3
  ·rw [gi,gi];exact h2 i h3
  ·rw [kY (z:=z) (n:=n) (h:=h3),kY (z:=y) (n:=m)]
 ·exact .inl h1
def UO (z y:Nat->Int) (n m k l:Nat):List WP:=[Rw 2 (If z k) n,Rw 2 (If y l) m,Rw 2 (If z k) (tl z n),Rw 2 (If y l) (tl y m)]
def aaC:List Step:=[.base ⟨105,[0],[oS 2],false⟩,.base ⟨105,[1],[oS 3],false⟩,.base ⟨136,[2,3,.lit (.fn 137)],oF,false⟩]
def aaD:List Out:=[oS 0,oS 1]
theorem aaE  (hn:n<=1000000) (hm:m<=1000000) (hk:k<=400000) (hl:l<=400000) (hs:tl z n≠tl y m∨∃t,t<tl z n∧(∀i,i<t->z i=y i)∧z t≠y t):aj (ph (UO z y n m k l)) prog ⟨94,[0,1],oF,false⟩:=by
 have hz:=bi z n
 exact aQ aaD oF aaC func94 (by kernel_rfl) (lB (ig (z:=z) (n:=n) (k:=k) (F:=(If z k)) ad aV (fun _ _ _ _ g h=>aF.kp h g) rfl) (lB (ig (z:=y) (n:=m) (k:=l) (F:=(If y l)) ad aV (fun _ _ _ _ g h=>aF.kp h g) rfl) (lB (UM (Rw.To 2 (If z k) (tl z n) (fun _ _ _ _ h=>h)) (Rw.To 2 (If y l) (tl y m) (fun _ _ _ _ h=>h)) hs) aD)))
  (aM [.fact 0 (.one (.s)),.fact 1 (.one (.s))] ⟨Rw.Is 2 (If z k) n,Rw.Is 2 (If y l) m,trivial⟩) aV
section
variable {Φ:PH}{p q:Nat}
theorem zA (hp:∀w v,Φ p w v->Rw 2 (If z k) n w v) (hq:∀w v,Φ q w v->Rw 2 (If y l) m w v) (hn:n<=1000000) (hm:m<=1000000) (hs:¬∀i,upto n z i=upto m y i) (hk:k<=400000:=by omega) (hl:l<=400000:=by omega):aj Φ prog ⟨94,[.fact p,.fact q],oF,false⟩:=
 aT (aaE hn hm hk hl (UN hs)) ⟨hp,hq,trivial⟩ ⟨⟨rfl,trivial⟩,trivial⟩
end
def aaF (d:Int) (k:Nat):List WP:=[Iw d k,Nw d k]
def aaG:List Step:=[.base ⟨78,[0],[oI 1],false⟩,.base ⟨79,[1],oF,false⟩]
def aaH:List Out:=[⟨.agg [.s,.s,.b,.s],[(2,2,0)]⟩]
theorem aaI  (hd:d≠0) (hk:k<=100000):aj (ph (aaF d k)) prog ⟨93,[.parts (.agg [.s,.s,.b,.s]) [(2,2,0)]],[oI 1],false⟩:=aQ aaH [oI 1] aaG func93 (by kernel_rfl) (lB (pX iI rfl rfl) (lB (DB nN (decide_eq_false hd)) aD))
  (aM [.parts (.agg [.s,.s,.b,.s]) [(2,2,0)]] ⟨trivial,trivial⟩) aV
def aaJ (k:Nat):List WP:=[Iw (0:Int) k,Nw (0:Int) k,Nw (1:Int) 2]
def aaK:List Step:=[.base ⟨78,[0],[oI 1],false⟩,.base ⟨79,[1],oT,false⟩,.base ⟨104,[.lit (.ci .i64 1)],[oI 2],false⟩]
def aaL:List Out:=[⟨.agg [.s,.s,.b,.s],[(2,2,0)]⟩]
theorem aaM  (hk:k<=100000):aj (ph (aaJ k)) prog ⟨93,[.parts (.agg [.s,.s,.b,.s]) [(2,2,0)]],[oI 2],false⟩:=aQ aaL [oI 2] aaK func93 (by kernel_rfl) (lB (pX iI rfl rfl) (lB (DB nN rfl) (lB (yE (z:=1) rfl rfl) aD)))
  (aM [.parts (.agg [.s,.s,.b,.s]) [(2,2,0)]] ⟨trivial,trivial⟩) aV
theorem gH {Φ:PH}{p x:Nat} (hp:∀w v,Φ p w v->aF w v d k) (hx:Φ x=Nw (ceE d) k) (hk:k<=100000:=by omega) (hk1:1<=k:=by omega):aj Φ prog ⟨93,[.parts cS [(2,2,p)]],[⟨iS,[(0,0,x)]⟩],false⟩:=by
 by_cases hd:d=0
 ·subst hd
  exact aT (aaM hk) ⟨⟨rfl,⟨rfl,rfl,hp⟩,trivial⟩,trivial⟩ ⟨⟨rfl,⟨rfl,rfl,fun w v h=>by rw [hx];exact ak.re h (gF hk1)⟩,trivial⟩,trivial⟩
 ·exact aT (aaI hd hk) ⟨⟨rfl,⟨rfl,rfl,hp⟩,trivial⟩,trivial⟩ ⟨⟨rfl,⟨rfl,rfl,fun w v h=>by rw [hx,show ceE d=d from if_neg hd];exact h⟩,trivial⟩,trivial⟩
def scL (z:Nat->Int) (n:Nat) (y:Int):List Int:=an (mk n fun i=>z i*y)
theorem cE (z:Nat->Int) (n:Nat) (y:Int):(scL z n y).length=tl (fun i=>z i*y) n:=eQ _ _
theorem tw (z:Nat->Int) (n:Nat) (y:Int) (i:Nat):upto (scL z n y).length (ae (scL z n y)) i=upto n z i*y:=by
 rw [Qt,scL,fM,cM]
 unfold upto
 split
 ·rfl
 ·rw [Int.zero_mul]
theorem kO :(∀i,upto (scL z n a).length (ae (scL z n a)) i=upto (scL y m b).length (ae (scL y m b)) i) ↔ ∀i,upto n z i*a=upto m y i*b:=by
 constructor
 ·intro h i
  have:=h i
  rwa [tw,tw] at this
 ·intro h i
  rw [tw,tw];exact h i
def aaN (x0 y0 x1 y1:Nat->Int) (n0 m0 n1 m1:Nat) (d0 d1:Int) (k:Nat):List WP:=[Rw 2 (If x0 k) n0,Rw 2 (If y0 k) m0,Iw d0 k,Rw 2 (If x1 k) n1,Rw 2 (If y1 k) m1,Iw d1 k,Nw (ceE d0) k,Nw (ceE d1) k,Rw 2 (Nf (ae (scL x0 n0 (ceE d1))) (k+k)) ((scL x0 n0 (ceE d1)).length),Rw 2 (Nf (ae (scL x1 n1 (ceE d0))) (k+k)) ((scL x1 n1 (ceE d0)).length),Rw 2 (Nf (ae (scL y0 m0 (ceE d1))) (k+k)) ((scL y0 m0 (ceE d1)).length),Rw 2 (Nf (ae (scL y1 m1 (ceE d0))) (k+k)) ((scL y1 m1 (ceE d0)).length)]
def aaO:List Step:=[.base ⟨93,[.parts cS [(2,2,2)]],[oI 6],false⟩,.base ⟨93,[.parts cS [(2,2,5)]],[oI 7],false⟩,.base ⟨92,[0,7],[oS 8],false⟩,.base ⟨92,[3,6],[oS 9],false⟩,.base ⟨94,[8,9],oT,false⟩,.base ⟨92,[1,7],[oS 10],false⟩,.base ⟨92,[4,6],[oS 11],false⟩,.base ⟨94,[10,11],oT,false⟩]
def aaP:List Out:=[⟨.agg [.s,.s,.b,.s],[(0,1,0),(1,1,1),(2,2,2)]⟩,⟨.agg [.s,.s,.b,.s],[(0,1,3),(1,1,4),(2,2,5)]⟩]
theorem aaQ  (hk:k<=1000) (hk1:1<=k) (hn0:n0<=1000) (hm0:m0<=1000) (hn1:n1<=1000) (hm1:m1<=1000) (hX:(∀i,upto n0 x0 i*ceE d1=upto n1 x1 i*ceE d0)) (hY:(∀i,upto m0 y0 i*ceE d1=upto m1 y1 i*ceE d0)):aj (ph (aaN x0 y0 x1 y1 n0 m0 n1 m1 d0 d1 k)) prog ⟨55,[.parts (.agg [.s,.s,.b,.s]) [(0,1,0),(1,1,1),(2,2,2)],.parts (.agg [.s,.s,.b,.s]) [(0,1,3),(1,1,4),(2,2,5)]],oT,false⟩:=aQ aaP oT aaO func55 (by kernel_rfl) (lB (gH ad rfl) (lB (gH ad rfl) (lB (QL (z:=x0) (n:=n0) (y:=(ceE d1)) (Rw.To 2 (If x0 k) n0 (fun _ _ _ _ h=>h)) nI rfl rfl) (lB (QL (z:=x1) (n:=n1) (y:=(ceE d0)) (Rw.To 2 (If x1 k) n1 (fun _ _ _ _ h=>h)) nI rfl rfl) (lB (ub (z:=(ae (scL x0 n0 (ceE d1)))) (n:=(scL x0 n0 (ceE d1)).length) (y:=(ae (scL x1 n1 (ceE d0)))) (m:=(scL x1 n1 (ceE d0)).length) (Rw.To 2 (fun ι w v=>ak w v ((ae (scL x0 n0 (ceE d1))) ι) (k+k)) ((scL x0 n0 (ceE d1)).length) (fun _ _ _ _ h=>ak.i h)) (Rw.To 2 (fun ι w v=>ak w v ((ae (scL x1 n1 (ceE d0))) ι) (k+k)) ((scL x1 n1 (ceE d0)).length) (fun _ _ _ _ h=>ak.i h)) (by rw [cE];exact Nat.le_trans (bi _ _) (by omega)) (by rw [cE];exact Nat.le_trans (bi _ _) (by omega)) (kO.2 hX)) (lB (QL (z:=y0) (n:=m0) (y:=(ceE d1)) (Rw.To 2 (If y0 k) m0 (fun _ _ _ _ h=>h)) nI rfl rfl) (lB (QL (z:=y1) (n:=m1) (y:=(ceE d0)) (Rw.To 2 (If y1 k) m1 (fun _ _ _ _ h=>h)) nI rfl rfl) (lB (ub (z:=(ae (scL y0 m0 (ceE d1)))) (n:=(scL y0 m0 (ceE d1)).length) (y:=(ae (scL y1 m1 (ceE d0)))) (m:=(scL y1 m1 (ceE d0)).length) (Rw.To 2 (fun ι w v=>ak w v ((ae (scL y0 m0 (ceE d1))) ι) (k+k)) ((scL y0 m0 (ceE d1)).length) (fun _ _ _ _ h=>ak.i h)) (Rw.To 2 (fun ι w v=>ak w v ((ae (scL y1 m1 (ceE d0))) ι) (k+k)) ((scL y1 m1 (ceE d0)).length) (fun _ _ _ _ h=>ak.i h)) (by rw [cE];exact Nat.le_trans (bi _ _) (by omega)) (by rw [cE];exact Nat.le_trans (bi _ _) (by omega)) (kO.2 hY)) aD))))))))
  (aM [.parts (.agg [.s,.s,.b,.s]) [(0,1,0),(1,1,1),(2,2,2)],.parts (.agg [.s,.s,.b,.s]) [(0,1,3),(1,1,4),(2,2,5)]] ⟨trivial,trivial,trivial⟩) aV
def aaR (x0 y0 x1 y1:Nat->Int) (n0 m0 n1 m1:Nat) (d0 d1:Int) (k:Nat):List WP:=[Rw 2 (If x0 k) n0,Rw 2 (If y0 k) m0,Iw d0 k,Rw 2 (If x1 k) n1,Rw 2 (If y1 k) m1,Iw d1 k,Nw (ceE d0) k,Nw (ceE d1) k,Rw 2 (Nf (ae (scL x0 n0 (ceE d1))) (k+k)) ((scL x0 n0 (ceE d1)).length),Rw 2 (Nf (ae (scL x1 n1 (ceE d0))) (k+k)) ((scL x1 n1 (ceE d0)).length)]
def aaS:List Step:=[.base ⟨93,[.parts cS [(2,2,2)]],[oI 6],false⟩,.base ⟨93,[.parts cS [(2,2,5)]],[oI 7],false⟩,.base ⟨92,[0,7],[oS 8],false⟩,.base ⟨92,[3,6],[oS 9],false⟩,.base ⟨94,[8,9],oF,false⟩]
def aaT:List Out:=[⟨.agg [.s,.s,.b,.s],[(0,1,0),(1,1,1),(2,2,2)]⟩,⟨.agg [.s,.s,.b,.s],[(0,1,3),(1,1,4),(2,2,5)]⟩]
theorem aaU  (hk:k<=1000) (hk1:1<=k) (hn0:n0<=1000) (_hm0:m0<=1000) (hn1:n1<=1000) (_hm1:m1<=1000) (hX:¬(∀i,upto n0 x0 i*ceE d1=upto n1 x1 i*ceE d0)):aj (ph (aaR x0 y0 x1 y1 n0 m0 n1 m1 d0 d1 k)) prog ⟨55,[.parts (.agg [.s,.s,.b,.s]) [(0,1,0),(1,1,1),(2,2,2)],.parts (.agg [.s,.s,.b,.s]) [(0,1,3),(1,1,4),(2,2,5)]],oF,false⟩:=aQ aaT oF aaS func55 (by kernel_rfl) (lB (gH ad rfl) (lB (gH ad rfl) (lB (QL (z:=x0) (n:=n0) (y:=(ceE d1)) (Rw.To 2 (If x0 k) n0 (fun _ _ _ _ h=>h)) nI rfl rfl) (lB (QL (z:=x1) (n:=n1) (y:=(ceE d0)) (Rw.To 2 (If x1 k) n1 (fun _ _ _ _ h=>h)) nI rfl rfl) (lB (zA (z:=(ae (scL x0 n0 (ceE d1)))) (n:=(scL x0 n0 (ceE d1)).length) (y:=(ae (scL x1 n1 (ceE d0)))) (m:=(scL x1 n1 (ceE d0)).length) (Rw.To 2 (fun ι w v=>ak w v ((ae (scL x0 n0 (ceE d1))) ι) (k+k)) ((scL x0 n0 (ceE d1)).length) (fun _ _ _ _ h=>ak.i h)) (Rw.To 2 (fun ι w v=>ak w v ((ae (scL x1 n1 (ceE d0))) ι) (k+k)) ((scL x1 n1 (ceE d0)).length) (fun _ _ _ _ h=>ak.i h)) (by rw [cE];exact Nat.le_trans (bi _ _) (by omega)) (by rw [cE];exact Nat.le_trans (bi _ _) (by omega)) (fun h=>hX (kO.1 h))) aD)))))
  (aM [.parts (.agg [.s,.s,.b,.s]) [(0,1,0),(1,1,1),(2,2,2)],.parts (.agg [.s,.s,.b,.s]) [(0,1,3),(1,1,4),(2,2,5)]] ⟨trivial,trivial,trivial⟩) aV
def aaV (x0 y0 x1 y1:Nat->Int) (n0 m0 n1 m1:Nat) (d0 d1:Int) (k:Nat):List WP:=[Rw 2 (If x0 k) n0,Rw 2 (If y0 k) m0,Iw d0 k,Rw 2 (If x1 k) n1,Rw 2 (If y1 k) m1,Iw d1 k,Nw (ceE d0) k,Nw (ceE d1) k,Rw 2 (Nf (ae (scL x0 n0 (ceE d1))) (k+k)) ((scL x0 n0 (ceE d1)).length),Rw 2 (Nf (ae (scL x1 n1 (ceE d0))) (k+k)) ((scL x1 n1 (ceE d0)).length),Rw 2 (Nf (ae (scL y0 m0 (ceE d1))) (k+k)) ((scL y0 m0 (ceE d1)).length),Rw 2 (Nf (ae (scL y1 m1 (ceE d0))) (k+k)) ((scL y1 m1 (ceE d0)).length)]
def aaW:List Step:=[.base ⟨93,[.parts cS [(2,2,2)]],[oI 6],false⟩,.base ⟨93,[.parts cS [(2,2,5)]],[oI 7],false⟩,.base ⟨92,[0,7],[oS 8],false⟩,.base ⟨92,[3,6],[oS 9],false⟩,.base ⟨94,[8,9],oT,false⟩,.base ⟨92,[1,7],[oS 10],false⟩,.base ⟨92,[4,6],[oS 11],false⟩,.base ⟨94,[10,11],oF,false⟩]
def aaX:List Out:=[⟨.agg [.s,.s,.b,.s],[(0,1,0),(1,1,1),(2,2,2)]⟩,⟨.agg [.s,.s,.b,.s],[(0,1,3),(1,1,4),(2,2,5)]⟩]
theorem aaY  (hk:k<=1000) (hk1:1<=k) (hn0:n0<=1000) (hm0:m0<=1000) (hn1:n1<=1000) (hm1:m1<=1000) (hX:(∀i,upto n0 x0 i*ceE d1=upto n1 x1 i*ceE d0)) (hY:¬(∀i,upto m0 y0 i*ceE d1=upto m1 y1 i*ceE d0)):aj (ph (aaV x0 y0 x1 y1 n0 m0 n1 m1 d0 d1 k)) prog ⟨55,[.parts (.agg [.s,.s,.b,.s]) [(0,1,0),(1,1,1),(2,2,2)],.parts (.agg [.s,.s,.b,.s]) [(0,1,3),(1,1,4),(2,2,5)]],oF,false⟩:=aQ aaX oF aaW func55 (by kernel_rfl) (lB (gH ad rfl) (lB (gH ad rfl) (lB (QL (z:=x0) (n:=n0) (y:=(ceE d1)) (Rw.To 2 (If x0 k) n0 (fun _ _ _ _ h=>h)) nI rfl rfl) (lB (QL (z:=x1) (n:=n1) (y:=(ceE d0)) (Rw.To 2 (If x1 k) n1 (fun _ _ _ _ h=>h)) nI rfl rfl) (lB (ub (z:=(ae (scL x0 n0 (ceE d1)))) (n:=(scL x0 n0 (ceE d1)).length) (y:=(ae (scL x1 n1 (ceE d0)))) (m:=(scL x1 n1 (ceE d0)).length) (Rw.To 2 (fun ι w v=>ak w v ((ae (scL x0 n0 (ceE d1))) ι) (k+k)) ((scL x0 n0 (ceE d1)).length) (fun _ _ _ _ h=>ak.i h)) (Rw.To 2 (fun ι w v=>ak w v ((ae (scL x1 n1 (ceE d0))) ι) (k+k)) ((scL x1 n1 (ceE d0)).length) (fun _ _ _ _ h=>ak.i h)) (by rw [cE];exact Nat.le_trans (bi _ _) (by omega)) (by rw [cE];exact Nat.le_trans (bi _ _) (by omega)) (kO.2 hX)) (lB (QL (z:=y0) (n:=m0) (y:=(ceE d1)) (Rw.To 2 (If y0 k) m0 (fun _ _ _ _ h=>h)) nI rfl rfl) (lB (QL (z:=y1) (n:=m1) (y:=(ceE d0)) (Rw.To 2 (If y1 k) m1 (fun _ _ _ _ h=>h)) nI rfl rfl) (lB (zA (z:=(ae (scL y0 m0 (ceE d1)))) (n:=(scL y0 m0 (ceE d1)).length) (y:=(ae (scL y1 m1 (ceE d0)))) (m:=(scL y1 m1 (ceE d0)).length) (Rw.To 2 (fun ι w v=>ak w v ((ae (scL y0 m0 (ceE d1))) ι) (k+k)) ((scL y0 m0 (ceE d1)).length) (fun _ _ _ _ h=>ak.i h)) (Rw.To 2 (fun ι w v=>ak w v ((ae (scL y1 m1 (ceE d0))) ι) (k+k)) ((scL y1 m1 (ceE d0)).length) (fun _ _ _ _ h=>ak.i h)) (by rw [cE];exact Nat.le_trans (bi _ _) (by omega)) (by rw [cE];exact Nat.le_trans (bi _ _) (by omega)) (fun h=>hY (kO.1 h))) aD))))))))
  (aM [.parts (.agg [.s,.s,.b,.s]) [(0,1,0),(1,1,1),(2,2,2)],.parts (.agg [.s,.s,.b,.s]) [(0,1,3),(1,1,4),(2,2,5)]] ⟨trivial,trivial,trivial⟩) aV
section
variable {Φ:PH}{p0 q0 r0 p1 q1 r1:Nat}
theorem aaZ (hp0:∀w v,Φ p0 w v->Rw 2 (If x0 k) n0 w v) (hq0:∀w v,Φ q0 w v->Rw 2 (If y0 k) m0 w v) (hr0:∀w v,Φ r0 w v->aF w v d0 k) (hp1:∀w v,Φ p1 w v->Rw 2 (If x1 k) n1 w v) (hq1:∀w v,Φ q1 w v->Rw 2 (If y1 k) m1 w v) (hr1:∀w v,Φ r1 w v->aF w v d1 k) (h:((∀i,upto n0 x0 i*ceE d1=upto n1 x1 i*ceE d0)∧(∀i,upto m0 y0 i*ceE d1=upto m1 y1 i*ceE d0))) (hk:k<=1000:=by omega) (hk1:1<=k:=by omega) (hn0:n0<=1000:=by omega) (hm0:m0<=1000:=by omega) (hn1:n1<=1000:=by omega) (hm1:m1<=1000:=by omega):aj Φ prog ⟨55,[.parts cS [(0,1,p0),(1,1,q0),(2,2,r0)],.parts cS [(0,1,p1),(1,1,q1),(2,2,r1)]],oT,false⟩:=
 aT (aaQ hk hk1 hn0 hm0 hn1 hm1 h.1 h.2) ⟨⟨rfl,⟨rfl,rfl,hp0⟩,⟨rfl,rfl,hq0⟩,⟨rfl,rfl,hr0⟩,trivial⟩,⟨rfl,⟨rfl,rfl,hp1⟩,⟨rfl,rfl,hq1⟩,⟨rfl,rfl,hr1⟩,trivial⟩,trivial⟩ ⟨⟨rfl,trivial⟩,trivial⟩
theorem aa0 (hp0:∀w v,Φ p0 w v->Rw 2 (If x0 k) n0 w v) (hq0:∀w v,Φ q0 w v->Rw 2 (If y0 k) m0 w v) (hr0:∀w v,Φ r0 w v->aF w v d0 k) (hp1:∀w v,Φ p1 w v->Rw 2 (If x1 k) n1 w v) (hq1:∀w v,Φ q1 w v->Rw 2 (If y1 k) m1 w v) (hr1:∀w v,Φ r1 w v->aF w v d1 k) (h:¬((∀i,upto n0 x0 i*ceE d1=upto n1 x1 i*ceE d0)∧(∀i,upto m0 y0 i*ceE d1=upto m1 y1 i*ceE d0))) (hk:k<=1000:=by omega) (hk1:1<=k:=by omega) (hn0:n0<=1000:=by omega) (hm0:m0<=1000:=by omega) (hn1:n1<=1000:=by omega) (hm1:m1<=1000:=by omega):aj Φ prog ⟨55,[.parts cS [(0,1,p0),(1,1,q0),(2,2,r0)],.parts cS [(0,1,p1),(1,1,q1),(2,2,r1)]],oF,false⟩:=by
 by_cases hX:(∀i,upto n0 x0 i*ceE d1=upto n1 x1 i*ceE d0)
 ·exact aT (aaY hk hk1 hn0 hm0 hn1 hm1 hX fun hY=>h ⟨hX,hY⟩) ⟨⟨rfl,⟨rfl,rfl,hp0⟩,⟨rfl,rfl,hq0⟩,⟨rfl,rfl,hr0⟩,trivial⟩,⟨rfl,⟨rfl,rfl,hp1⟩,⟨rfl,rfl,hq1⟩,⟨rfl,rfl,hr1⟩,trivial⟩,trivial⟩ ⟨⟨rfl,trivial⟩,trivial⟩
 ·exact aT (aaU hk hk1 hn0 hm0 hn1 hm1 hX) ⟨⟨rfl,⟨rfl,rfl,hp0⟩,⟨rfl,rfl,hq0⟩,⟨rfl,rfl,hr0⟩,trivial⟩,⟨rfl,⟨rfl,rfl,hp1⟩,⟨rfl,rfl,hq1⟩,⟨rfl,rfl,hr1⟩,trivial⟩,trivial⟩ ⟨⟨rfl,trivial⟩,trivial⟩
end
def aa1 (x0 y0 x1 y1:Nat->Int) (n0 m0 n1 m1:Nat) (d0 d1:Int) (k:Nat):List WP:=[Rw 2 (If x0 k) n0,Rw 2 (If y0 k) m0,Iw d0 k,Rw 2 (If x1 k) n1,Rw 2 (If y1 k) m1,Iw d1 k]
def aa2:List Step:=[.base ⟨55,[.parts cS [(0,1,0),(1,1,1),(2,2,2)],.parts cS [(0,1,3),(1,1,4),(2,2,5)]],oT,false⟩]
def aa3:List Out:=[⟨.agg [.s,.s,.b,.s],[(0,1,0),(1,1,1),(2,2,2)]⟩,⟨.agg [.s,.s,.b,.s],[(0,1,3),(1,1,4),(2,2,5)]⟩]
theorem aa4  (hk:k<=1000) (hk1:1<=k) (hn0:n0<=1000) (hm0:m0<=1000) (hn1:n1<=1000) (hm1:m1<=1000) (h:((∀i,upto n0 x0 i*ceE d1=upto n1 x1 i*ceE d0)∧(∀i,upto m0 y0 i*ceE d1=upto m1 y1 i*ceE d0))):aj (ph (aa1 x0 y0 x1 y1 n0 m0 n1 m1 d0 d1 k)) prog ⟨16,[.parts (.agg [.s,.s,.b,.s]) [(0,1,0),(1,1,1),(2,2,2)],.parts (.agg [.s,.s,.b,.s]) [(0,1,3),(1,1,4),(2,2,5)]],oT,false⟩:=aQ aa3 oT aa2 func16 (by kernel_rfl) (lB (aaZ ad ad ad ad ad ad h) aD)
  (aM [.parts (.agg [.s,.s,.b,.s]) [(0,1,0),(1,1,1),(2,2,2)],.parts (.agg [.s,.s,.b,.s]) [(0,1,3),(1,1,4),(2,2,5)]] ⟨trivial,trivial,trivial⟩) aV
def aa5 (x0 y0 x1 y1:Nat->Int) (n0 m0 n1 m1:Nat) (d0 d1:Int) (k:Nat):List WP:=[Rw 2 (If x0 k) n0,Rw 2 (If y0 k) m0,Iw d0 k,Rw 2 (If x1 k) n1,Rw 2 (If y1 k) m1,Iw d1 k]
def aa6:List Step:=[.base ⟨55,[.parts cS [(0,1,0),(1,1,1),(2,2,2)],.parts cS [(0,1,3),(1,1,4),(2,2,5)]],oF,false⟩]
def aa7:List Out:=[⟨.agg [.s,.s,.b,.s],[(0,1,0),(1,1,1),(2,2,2)]⟩,⟨.agg [.s,.s,.b,.s],[(0,1,3),(1,1,4),(2,2,5)]⟩]
theorem aa8  (hk:k<=1000) (hk1:1<=k) (hn0:n0<=1000) (hm0:m0<=1000) (hn1:n1<=1000) (hm1:m1<=1000) (h:¬((∀i,upto n0 x0 i*ceE d1=upto n1 x1 i*ceE d0)∧(∀i,upto m0 y0 i*ceE d1=upto m1 y1 i*ceE d0))):aj (ph (aa5 x0 y0 x1 y1 n0 m0 n1 m1 d0 d1 k)) prog ⟨16,[.parts (.agg [.s,.s,.b,.s]) [(0,1,0),(1,1,1),(2,2,2)],.parts (.agg [.s,.s,.b,.s]) [(0,1,3),(1,1,4),(2,2,5)]],oF,false⟩:=aQ aa7 oF aa6 func16 (by kernel_rfl) (lB (aa0 ad ad ad ad ad ad h) aD)
  (aM [.parts (.agg [.s,.s,.b,.s]) [(0,1,0),(1,1,1),(2,2,2)],.parts (.agg [.s,.s,.b,.s]) [(0,1,3),(1,1,4),(2,2,5)]] ⟨trivial,trivial,trivial⟩) aV
section
variable {Φ:PH}{p0 q0 r0 p1 q1 r1:Nat}
theorem tZ (hp0:∀w v,Φ p0 w v->Rw 2 (If x0 k) n0 w v) (hq0:∀w v,Φ q0 w v->Rw 2 (If y0 k) m0 w v) (hr0:∀w v,Φ r0 w v->aF w v d0 k) (hp1:∀w v,Φ p1 w v->Rw 2 (If x1 k) n1 w v) (hq1:∀w v,Φ q1 w v->Rw 2 (If y1 k) m1 w v) (hr1:∀w v,Φ r1 w v->aF w v d1 k) (hn0:n0<=1000) (hm0:m0<=1000) (hn1:n1<=1000) (hm1:m1<=1000) (h:((∀i,upto n0 x0 i*ceE d1=upto n1 x1 i*ceE d0)∧(∀i,upto m0 y0 i*ceE d1=upto m1 y1 i*ceE d0))) (hk:k<=1000:=by omega) (hk1:1<=k:=by omega):aj Φ prog ⟨16,[.parts cS [(0,1,p0),(1,1,q0),(2,2,r0)],.parts cS [(0,1,p1),(1,1,q1),(2,2,r1)]],oT,false⟩:=
 aT (aa4 hk hk1 hn0 hm0 hn1 hm1 h) ⟨⟨rfl,⟨rfl,rfl,hp0⟩,⟨rfl,rfl,hq0⟩,⟨rfl,rfl,hr0⟩,trivial⟩,⟨rfl,⟨rfl,rfl,hp1⟩,⟨rfl,rfl,hq1⟩,⟨rfl,rfl,hr1⟩,trivial⟩,trivial⟩ ⟨⟨rfl,trivial⟩,trivial⟩
theorem KF (hp0:∀w v,Φ p0 w v->Rw 2 (If x0 k) n0 w v) (hq0:∀w v,Φ q0 w v->Rw 2 (If y0 k) m0 w v) (hr0:∀w v,Φ r0 w v->aF w v d0 k) (hp1:∀w v,Φ p1 w v->Rw 2 (If x1 k) n1 w v) (hq1:∀w v,Φ q1 w v->Rw 2 (If y1 k) m1 w v) (hr1:∀w v,Φ r1 w v->aF w v d1 k) (hn0:n0<=1000) (hm0:m0<=1000) (hn1:n1<=1000) (hm1:m1<=1000) (h:¬((∀i,upto n0 x0 i*ceE d1=upto n1 x1 i*ceE d0)∧(∀i,upto m0 y0 i*ceE d1=upto m1 y1 i*ceE d0))) (hk:k<=1000:=by omega) (hk1:1<=k:=by omega):aj Φ prog ⟨16,[.parts cS [(0,1,p0),(1,1,q0),(2,2,r0)],.parts cS [(0,1,p1),(1,1,q1),(2,2,r1)]],oF,false⟩:=
 aT (aa8 hk hk1 hn0 hm0 hn1 hm1 h) ⟨⟨rfl,⟨rfl,rfl,hp0⟩,⟨rfl,rfl,hq0⟩,⟨rfl,rfl,hr0⟩,trivial⟩,⟨rfl,⟨rfl,rfl,hp1⟩,⟨rfl,rfl,hq1⟩,⟨rfl,rfl,hr1⟩,trivial⟩,trivial⟩ ⟨⟨rfl,trivial⟩,trivial⟩
end
def aa9 (u0 v0 u1 v1:Nat->Rat) (n0 m0 n1 m1 k K N M:Nat):List WP:=[Rw 4 (Df u0 k) n0,Rw 4 (Df v0 k) m0,Rw 4 (Df u1 k) n1,Rw 4 (Df v1 k) m1,Rw 4 (Df (dX u0 n0 u1 n1) K) N,Nz N,Rw 4 (Df (dX v0 m0 v1 m1) K) M,Nz M]
def aba:List Step:=[.base ⟨51,[0,2],[oS 4],false⟩,bQ [4] [oN 5] (aK 32),bQ [5,.lit (.ci .i64 0)] oT (au .eql),.base ⟨51,[1,3],[oS 6],false⟩,bQ [6] [oN 7] (aK 32),bQ [7,.lit (.ci .i64 0)] oT (au .eql)]
def abb:List Out:=[⟨.agg [.s,.s,.s,.s,.b,.s],[(0,1,0),(1,1,1)]⟩,⟨.agg [.s,.s,.s,.s,.b,.s],[(0,1,2),(1,1,3)]⟩]
theorem abc  (hk:k<=1000) (hk1:1<=k) (hn0:n0<=1000) (hm0:m0<=1000) (hn1:n1<=1000) (hm1:m1<=1000) (hbu:∀i,i<n1->Bd (u1 i).num.natAbs k∧Bd (u1 i).den k) (htu:0<n1->(u1 (n1-1)).num≠0) (hBu:∀i,i<max n0 n1->Bd (dX u0 n0 u1 n1 i).num.natAbs K∧Bd (dX u0 n0 u1 n1 i).den K) (hNu:tl (fun i=>(dX u0 n0 u1 n1 i).num) (max n0 n1)=N) (hbv:∀i,i<m1->Bd (v1 i).num.natAbs k∧Bd (v1 i).den k) (htv:0<m1->(v1 (m1-1)).num≠0) (hBv:∀i,i<max m0 m1->Bd (dX v0 m0 v1 m1 i).num.natAbs K∧Bd (dX v0 m0 v1 m1 i).den K) (hNv:tl (fun i=>(dX v0 m0 v1 m1 i).num) (max m0 m1)=M) (h0:N=0) (h1:M=0) (hK:K<=8000:=by omega):aj (ph (aa9 u0 v0 u1 v1 n0 m0 n1 m1 k K N M)) prog ⟨17,[.parts (.agg [.s,.s,.s,.s,.b,.s]) [(0,1,0),(1,1,1)],.parts (.agg [.s,.s,.s,.s,.b,.s]) [(0,1,2),(1,1,3)]],oT,false⟩:=by
 have hNl:N<=1000:=by rw [<- hNu];exact Nat.le_trans (bi _ _) (by omega)
 have hMl:M<=1000:=by rw [<- hNv];exact Nat.le_trans (bi _ _) (by omega)
 exact aQ abb oT aba func17 (by kernel_rfl) (lB (JC (q:=u0) (r:=u1) (n:=n0) (m:=n1) (K:=K) (N:=N) ad ad rfl hbu htu hBu hNu) (lB (aS (F:=(Df (dX u0 n0 u1 n1) K)) underlying32 ad rfl) (lB (qT ad) (lB (JC (q:=v0) (r:=v1) (n:=m0) (m:=m1) (K:=K) (N:=M) ad ad rfl hbv htv hBv hNv) (lB (aS (F:=(Df (dX v0 m0 v1 m1) K)) underlying32 ad rfl) (lB (qT ad) aD))))))
  (aM [.parts (.agg [.s,.s,.s,.s,.b,.s]) [(0,1,0),(1,1,1)],.parts (.agg [.s,.s,.s,.s,.b,.s]) [(0,1,2),(1,1,3)]] ⟨trivial,trivial,trivial⟩) aV
def abd (u0 v0 u1 v1:Nat->Rat) (n0 m0 n1 m1 k K N:Nat):List WP:=[Rw 4 (Df u0 k) n0,Rw 4 (Df v0 k) m0,Rw 4 (Df u1 k) n1,Rw 4 (Df v1 k) m1,Rw 4 (Df (dX u0 n0 u1 n1) K) N,Nz N]
def abe:List Step:=[.base ⟨51,[0,2],[oS 4],false⟩,bQ [4] [oN 5] (aK 32),bQ [5,.lit (.ci .i64 0)] oF (au .eql)]
def abf:List Out:=[⟨.agg [.s,.s,.s,.s,.b,.s],[(0,1,0),(1,1,1)]⟩,⟨.agg [.s,.s,.s,.s,.b,.s],[(0,1,2),(1,1,3)]⟩]
theorem abg  (hk:k<=1000) (hk1:1<=k) (hK:K<=8000) (hn0:n0<=1000) (_hm0:m0<=1000) (hn1:n1<=1000) (_hm1:m1<=1000) (hbu:∀i,i<n1->Bd (u1 i).num.natAbs k∧Bd (u1 i).den k) (htu:0<n1->(u1 (n1-1)).num≠0) (hBu:∀i,i<max n0 n1->Bd (dX u0 n0 u1 n1 i).num.natAbs K∧Bd (dX u0 n0 u1 n1 i).den K) (hNu:tl (fun i=>(dX u0 n0 u1 n1 i).num) (max n0 n1)=N) (h0:N≠0):aj (ph (abd u0 v0 u1 v1 n0 m0 n1 m1 k K N)) prog ⟨17,[.parts (.agg [.s,.s,.s,.s,.b,.s]) [(0,1,0),(1,1,1)],.parts (.agg [.s,.s,.s,.s,.b,.s]) [(0,1,2),(1,1,3)]],oF,false⟩:=by
 have hNl:N<=1000:=by rw [<- hNu];exact Nat.le_trans (bi _ _) (by omega)
 exact aQ abf oF abe func17 (by kernel_rfl) (lB (JC (q:=u0) (r:=u1) (n:=n0) (m:=n1) (K:=K) (N:=N) ad ad rfl hbu htu hBu hNu) (lB (aS (F:=(Df (dX u0 n0 u1 n1) K)) underlying32 ad rfl) (lB (mw ad) aD)))
  (aM [.parts (.agg [.s,.s,.s,.s,.b,.s]) [(0,1,0),(1,1,1)],.parts (.agg [.s,.s,.s,.s,.b,.s]) [(0,1,2),(1,1,3)]] ⟨trivial,trivial,trivial⟩) aV
def abh (u0 v0 u1 v1:Nat->Rat) (n0 m0 n1 m1 k K N M:Nat):List WP:=[Rw 4 (Df u0 k) n0,Rw 4 (Df v0 k) m0,Rw 4 (Df u1 k) n1,Rw 4 (Df v1 k) m1,Rw 4 (Df (dX u0 n0 u1 n1) K) N,Nz N,Rw 4 (Df (dX v0 m0 v1 m1) K) M,Nz M]
def abi:List Step:=[.base ⟨51,[0,2],[oS 4],false⟩,bQ [4] [oN 5] (aK 32),bQ [5,.lit (.ci .i64 0)] oT (au .eql),.base ⟨51,[1,3],[oS 6],false⟩,bQ [6] [oN 7] (aK 32),bQ [7,.lit (.ci .i64 0)] oF (au .eql)]
def abj:List Out:=[⟨.agg [.s,.s,.s,.s,.b,.s],[(0,1,0),(1,1,1)]⟩,⟨.agg [.s,.s,.s,.s,.b,.s],[(0,1,2),(1,1,3)]⟩]
theorem abk  (hk:k<=1000) (hk1:1<=k) (hK:K<=8000) (hn0:n0<=1000) (hm0:m0<=1000) (hn1:n1<=1000) (hm1:m1<=1000) (hbu:∀i,i<n1->Bd (u1 i).num.natAbs k∧Bd (u1 i).den k) (htu:0<n1->(u1 (n1-1)).num≠0) (hBu:∀i,i<max n0 n1->Bd (dX u0 n0 u1 n1 i).num.natAbs K∧Bd (dX u0 n0 u1 n1 i).den K) (hNu:tl (fun i=>(dX u0 n0 u1 n1 i).num) (max n0 n1)=N) (hbv:∀i,i<m1->Bd (v1 i).num.natAbs k∧Bd (v1 i).den k) (htv:0<m1->(v1 (m1-1)).num≠0) (hBv:∀i,i<max m0 m1->Bd (dX v0 m0 v1 m1 i).num.natAbs K∧Bd (dX v0 m0 v1 m1 i).den K) (hNv:tl (fun i=>(dX v0 m0 v1 m1 i).num) (max m0 m1)=M) (h0:N=0) (h1:M≠0):aj (ph (abh u0 v0 u1 v1 n0 m0 n1 m1 k K N M)) prog ⟨17,[.parts (.agg [.s,.s,.s,.s,.b,.s]) [(0,1,0),(1,1,1)],.parts (.agg [.s,.s,.s,.s,.b,.s]) [(0,1,2),(1,1,3)]],oF,false⟩:=by
 have hNl:N<=1000:=by rw [<- hNu];exact Nat.le_trans (bi _ _) (by omega)
 have hMl:M<=1000:=by rw [<- hNv];exact Nat.le_trans (bi _ _) (by omega)
 exact aQ abj oF abi func17 (by kernel_rfl) (lB (JC (q:=u0) (r:=u1) (n:=n0) (m:=n1) (K:=K) (N:=N) ad ad rfl hbu htu hBu hNu) (lB (aS (F:=(Df (dX u0 n0 u1 n1) K)) underlying32 ad rfl) (lB (qT ad) (lB (JC (q:=v0) (r:=v1) (n:=m0) (m:=m1) (K:=K) (N:=M) ad ad rfl hbv htv hBv hNv) (lB (aS (F:=(Df (dX v0 m0 v1 m1) K)) underlying32 ad rfl) (lB (mw ad) aD))))))
  (aM [.parts (.agg [.s,.s,.s,.s,.b,.s]) [(0,1,0),(1,1,1)],.parts (.agg [.s,.s,.s,.s,.b,.s]) [(0,1,2),(1,1,3)]] ⟨trivial,trivial,trivial⟩) aV
theorem abl {f:Nat->Int}:tl f n=0 ↔ ∀i,i<n->f i=0:=
 ⟨fun h i hi=>iG f n i (by omega) hi,fun h=>by
  rcases Nat.eq_zero_or_pos (tl f n) with h1 | h1
  ·exact h1
  ·have:=bi f n
   exact absurd (h _ (by omega)) (gE f n h1)⟩
theorem abm {f:Int} (he:e≠0) (hf:f≠0):((a:Int):Rat)*aW 1 e-((b:Int):Rat)*aW 1 f=Rat.divInt (a*f-b*e) (e*f):=by
 have h1:=Du he
 have h2:=Du hf
 have h3:((e:Int):Rat)*((f:Int):Rat)≠0:=fun h=>by
  rw [<- Rat.intCast_mul] at h
  exact Int.mul_ne_zero he hf (by exact_mod_cast h)
 have h4:=Rat.mul_inv_cancel _ h3
 rw [Rat.divInt_eq_div,Rat.div_def,Rat.intCast_sub,Rat.intCast_mul,Rat.intCast_mul,Rat.intCast_mul]
 generalize (((e:Int):Rat)*((f:Int):Rat))⁻¹=z at *
 generalize aW 1 e=u at *
 generalize aW 1 f=w at *
 grind
section
variable {A B:List Int}{f:Int}{i:Nat}
theorem zB (A:List Int) (e:Int) (i:Nat):eR A.length (aE e (ae A)) i=aE e (ae A) i:=by
 unfold eR
 split
 ·rfl
 ·rw [aE,eT,show (((0:Int):Int):Rat)=0 from rfl,Rat.zero_mul]
theorem zC (he:e≠0) (hf:f≠0) (i:Nat):dX (aE e (ae A)) A.length (aE f (ae B)) B.length i=Rat.divInt (ae A i*f-ae B i*e) (e*f):=by
 rw [dX,zB,zB]
 exact abm he hf
theorem zD (he:e≠0) (hf:f≠0) (i:Nat):(dX (aE e (ae A)) A.length (aE f (ae B)) B.length i).num=0 ↔ ae A i*f=ae B i*e:=by
 rw [zC he hf,Rat.num_eq_zero]
 constructor
 ·intro h
  have h0:(((e*f:Int):Int):Rat)≠0:=fun h=>Int.mul_ne_zero he hf (by exact_mod_cast h)
  have h2:((ae A i*f-ae B i*e:Int):Rat)=0:=by
   rw [<- Rat.div_mul_cancel (a:=((ae A i*f-ae B i*e:Int):Rat)) h0,<- Rat.divInt_eq_div,h,Rat.zero_mul]
  have:ae A i*f-ae B i*e=0:=by exact_mod_cast h2
  omega
 ·intro h
  rw [h,Int.sub_self,Rat.zero_divInt]
theorem lc (he:e≠0) (hf:f≠0):tl (fun i=>(dX (aE e (ae A)) A.length (aE f (ae B)) B.length i).num) (max A.length B.length)=0 ↔ ∀i,ae A i*f=ae B i*e:=by
 rw [abl]
 constructor
 ·intro h i
  rcases Nat.lt_or_ge i (max A.length B.length) with h1 | h1
  ·exact (zD he hf i).1 (h i h1)
  ·rw [eT (zs:=A),eT (zs:=B),Int.zero_mul,Int.zero_mul]
 ·intro h i _
  exact (zD he hf i).2 (h i)
theorem ld (he:e≠0) (hf:f≠0) (hA:∀i,Bd (ae A i).natAbs k) (hB:∀i,Bd (ae B i).natAbs k) (hbe:Bd e.natAbs k) (hbf:Bd f.natAbs k) (i:Nat):Bd (dX (aE e (ae A)) A.length (aE f (ae B)) B.length i).num.natAbs (k+k+1)∧Bd (dX (aE e (ae A)) A.length (aE f (ae B)) B.length i).den (k+k+1):=by
 rw [zC he hf]
 have h1:Bd (ae A i*f).natAbs (k+k):=by rw [Int.natAbs_mul];exact (hA i).mul hbf
 have h2:Bd (ae B i*e).natAbs (k+k):=by rw [Int.natAbs_mul];exact (hB i).mul hbe
 have h3:Bd (e*f).natAbs (k+k):=by rw [Int.natAbs_mul];exact hbe.mul hbf
 exact ⟨(Bd.tr h1 h2).le (Nat.le_trans (Ve _ _) (by have:=Int.natAbs_sub_le (ae A i*f) (ae B i*e);omega)),(h3.le (Vf (Int.mul_ne_zero he hf))).more (by omega)⟩
end
section
variable {Φ:PH}{p0 q0 p1 q1:Nat}{A0 B0 A1 B1:List Int}{e0 e1:Int}
structure jJ (A B:List Int) (e:Int) (k:Nat):Prop where
 he:e≠0
 nA:cG A
 nB:cG B
 lA:A.length<=1000
 lB:B.length<=1000
 bA:∀i,Bd (ae A i).natAbs k
 bB:∀i,Bd (ae B i).natAbs k
 be:Bd e.natAbs k
theorem nK {A:List Int} (he:e≠0) (hA:cG A) (h:0<A.length):(aE e (ae A) (A.length-1)).num≠0:=by
 have h1:=DO he hA
 have:=gE (fun i=>(aE e (ae A) i).num) A.length (by omega)
 rwa [h1] at this
theorem zJ (hp0:∀w v,Φ p0 w v->Rw 4 (Df (aE e0 (ae A0)) k) A0.length w v) (hq0:∀w v,Φ q0 w v->Rw 4 (Df (aE e0 (ae B0)) k) B0.length w v) (hp1:∀w v,Φ p1 w v->Rw 4 (Df (aE e1 (ae A1)) k) A1.length w v) (hq1:∀w v,Φ q1 w v->Rw 4 (Df (aE e1 (ae B1)) k) B1.length w v) (h0:jJ A0 B0 e0 k) (h1:jJ A1 B1 e1 k) (h:(∀i,ae A0 i*e1=ae A1 i*e0)∧∀i,ae B0 i*e1=ae B1 i*e0) (hk:k<=1000:=by omega) (hk1:1<=k:=by omega):aj Φ prog ⟨17,[.parts cR [(0,1,p0),(1,1,q0)],.parts cR [(0,1,p1),(1,1,q1)]],oT,false⟩:=
 aT (abc (u0:=aE e0 (ae A0)) (v0:=aE e0 (ae B0)) (u1:=aE e1 (ae A1)) (v1:=aE e1 (ae B1)) (K:=k+k+1) hk hk1 h0.lA h0.lB h1.lA h1.lB (fun i _=>DN h1.he (h1.bA i) h1.be) (fun h=>nK h1.he h1.nA h) (fun i _=>ld h0.he h1.he h0.bA h1.bA h0.be h1.be i) rfl (fun i _=>DN h1.he (h1.bB i) h1.be) (fun h=>nK h1.he h1.nB h) (fun i _=>ld h0.he h1.he h0.bB h1.bB h0.be h1.be i) rfl ((lc h0.he h1.he).2 h.1) ((lc h0.he h1.he).2 h.2)) ⟨⟨rfl,⟨rfl,rfl,hp0⟩,⟨rfl,rfl,hq0⟩,trivial⟩,⟨rfl,⟨rfl,rfl,hp1⟩,⟨rfl,rfl,hq1⟩,trivial⟩,trivial⟩ ⟨⟨rfl,trivial⟩,trivial⟩
theorem KG (hp0:∀w v,Φ p0 w v->Rw 4 (Df (aE e0 (ae A0)) k) A0.length w v) (hq0:∀w v,Φ q0 w v->Rw 4 (Df (aE e0 (ae B0)) k) B0.length w v) (hp1:∀w v,Φ p1 w v->Rw 4 (Df (aE e1 (ae A1)) k) A1.length w v) (hq1:∀w v,Φ q1 w v->Rw 4 (Df (aE e1 (ae B1)) k) B1.length w v) (h0:jJ A0 B0 e0 k) (h1:jJ A1 B1 e1 k) (h:¬((∀i,ae A0 i*e1=ae A1 i*e0)∧∀i,ae B0 i*e1=ae B1 i*e0)) (hk:k<=1000:=by omega) (hk1:1<=k:=by omega):aj Φ prog ⟨17,[.parts cR [(0,1,p0),(1,1,q0)],.parts cR [(0,1,p1),(1,1,q1)]],oF,false⟩:=by
 by_cases hX:∀i,ae A0 i*e1=ae A1 i*e0
 ·exact aT (abk (u0:=aE e0 (ae A0)) (v0:=aE e0 (ae B0)) (u1:=aE e1 (ae A1)) (v1:=aE e1 (ae B1)) (K:=k+k+1) hk hk1 (by omega) h0.lA h0.lB h1.lA h1.lB (fun i _=>DN h1.he (h1.bA i) h1.be) (fun h=>nK h1.he h1.nA h) (fun i _=>ld h0.he h1.he h0.bA h1.bA h0.be h1.be i) rfl (fun i _=>DN h1.he (h1.bB i) h1.be) (fun h=>nK h1.he h1.nB h) (fun i _=>ld h0.he h1.he h0.bB h1.bB h0.be h1.be i) rfl ((lc h0.he h1.he).2 hX) fun e=>h ⟨hX,(lc h0.he h1.he).1 e⟩) ⟨⟨rfl,⟨rfl,rfl,hp0⟩,⟨rfl,rfl,hq0⟩,trivial⟩,⟨rfl,⟨rfl,rfl,hp1⟩,⟨rfl,rfl,hq1⟩,trivial⟩,trivial⟩ ⟨⟨rfl,trivial⟩,trivial⟩
 ·exact aT (abg (u0:=aE e0 (ae A0)) (v0:=aE e0 (ae B0)) (u1:=aE e1 (ae A1)) (v1:=aE e1 (ae B1)) (K:=k+k+1) hk hk1 (by omega) h0.lA h0.lB h1.lA h1.lB (fun i _=>DN h1.he (h1.bA i) h1.be) (fun h=>nK h1.he h1.nA h) (fun i _=>ld h0.he h1.he h0.bA h1.bA h0.be h1.be i) rfl fun e=>hX ((lc h0.he h1.he).1 e)) ⟨⟨rfl,⟨rfl,rfl,hp0⟩,⟨rfl,rfl,hq0⟩,trivial⟩,⟨rfl,⟨rfl,rfl,hp1⟩,⟨rfl,rfl,hq1⟩,trivial⟩,trivial⟩ ⟨⟨rfl,trivial⟩,trivial⟩
end
end Go.Proofs.YtbjfgffibepmkaaGreat.Sym
