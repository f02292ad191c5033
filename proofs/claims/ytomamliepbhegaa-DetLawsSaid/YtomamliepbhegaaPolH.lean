/- poly.each and both (Norm, Neg, Add, Sub), Mul. Products of polynomials as sums of products: they ask for no order, nor for brackets. poly.Same; contracts of Norm, Neg, Add, Sub, Mul. -/
import Derived.Test.YtomamliepbhegaaPolX
set_option maxRecDepth 100000
namespace Go.Proofs.Ytomamliepbhegaa.Sym
open Go.RowKit
theorem Dh {Φ:PH}{p q x i j:Nat}{z y t:Int} (hp:∀w v,Φ p w v->aB w v z i) (hq:∀w v,Φ q w v->aB w v y j) (hx:Φ x=Nw t (i+j+1)) (hi:i+j<=1000000) (ht:z-y=t):aj Φ Try.prog ⟨79,[.fact p,.fact q],[⟨iS,[(0,0,x)]⟩],false⟩:=
 Ld fun _ _ _ _ h0 h1=>((AU (hp _ _ (get h0)) (hq _ _ (get h1)) hi).mono fun _ _ h=>h.got).mono fun _ _ h=>iQ (ht▸hx) h
def cL (z y:Nat->Int) (l:Nat):Nat->Nat->Int
 | 0,_=>0
 | j+1,p=>cL z y l j p+(if j<=p∧p<j+l then z j*y (p-j) else 0)
def co (z y:Nat->Int) (l:Nat) (j i p:Nat):Int:=cL z y l j p+(if j<=p∧p<j+i then z j*y (p-j) else 0)
def ou (z:Nat->Int) (n k:Nat):List WP:=[Rw 2 (If z k) n,Nz n,aC 2 66 (Nf (upto 0 z) k) n,Nz n,aC 2 66 (Nf (upto n z) k) n,Rw 2 (Nf (upto n z) k) (tl (upto n z) n)]
def Di (z:Nat->Int) (n k:Nat) (j:Nat):List WP:=[Nz j,aC 2 66 (Nf (upto j z) k) n,fun _ _=>True,Ptr 2 (Iw (z j) k),Iw (z j) k,Nw (z j) k,At 2,Ptr 2 (Nw ((upto j z) j) k),fun w v=>aC 2 66 (fun ι w v=>au w v ((upto (j+1) z) ι) k) n w v,Nz (j+1)]
def tB:bf:=⟨[0,1,4,8,9,10,11,12],[(.slot 13,.i),(.slot 5,.s)],[(.one 0,6),(.one 1,.bT [1] 7),(.one 1,.lo 1)],[.closed (.one (.ci .i64 0)),.frm 2,.frm 0],6,[(7,4)]⟩
def tC:List Step:=[bQ [.fact 6,.fact 3] oT (ai .lss),
   bQ [.fact 0,.fact 6] [oP 9] (aI 29),
   bQ [.fact 9] [oI 10] (aL 66),
   .base ⟨37,[.fact 10],[oI 11],false⟩,
   .base ⟨0,[.fact 7,.fact 6],[oP 13],.joint [1] 12 (aI 29)⟩,
   .base ⟨0,[.fact 7,.fact 6,.any,.fact 11],[oS 14],.put [] 1 0 12 (dN 66 (.tmp 18) (.tmp 19))⟩,
   bQ [.fact 6,.lit (.ci .i64 1)] [oN 15] (ai .add)]
def Dj:List Step:=[bQ [.fact 6,.fact 3] oF (ai .lss)]
def Dk:List Step:=[bQ [.fact 0] [oN 1] (aD 29),
   .base ⟨0,[.fact 1,.fact 1],[oS 2],.loose [] 1 0 (dZ 29)⟩,
   bQ [.fact 0] [oN 3] (aD 29),
   .loop tB [(tC,[.frm 15,.frm 14,.frm 0])] Dj,
   .base ⟨41,[.fact 4],[oS 5],.df [1] false⟩]
def Dl:List Out:=[oS 0,⟨.one (.lit (.fn 37)),[]⟩]
theorem Do {z:Nat->Int}{n k:Nat} (hn:n<=1000000) (hk:k<=500000):aj (ph (ou z n k)) Try.prog ⟨36,[.fact 0,.lit (.fn 37)],[oS 5],false⟩:=by
 skip
 exact aR Dl [oS 5] Dk Try.func36 (by kernel_rfl)
  (lB (aG (F:=(If z k)) Try.underlying29 aa rfl)
   (lB (iP (n:=n) (F:=(Nf (upto 0 z) k)) aa (by omega) (fun i w=>au.zero w k) rfl)
   (lB (aG (F:=(If z k)) Try.underlying29 aa rfl)
   (bI (counted n (fun j=>ph (ou z n k ++ Di z n k j)) (fun _=>0) (fun j p hp=>bJ (show p<(ou z n k).length from hp)) ⟨fun _=>rfl,aa,aW,trivial⟩ (fun j hj=>by
   skip
   exact ⟨(tC,[.frm 15,.frm 14,.frm 0]),rfl,⟨aa,aa,aW,trivial⟩,(lB (bm aa aa)
   (lB (bc (i:=j) (F:=(If z k)) Try.underlying29 (by kernel_rfl) aa aa (by omega) rfl)
   (lB (cw (sz:=2) (F:=Iw (z j) k) (by kernel_rfl) (by kernel_rfl) aa (fun _ _ _ g h=>aB.kp h g) (fun _ _ h=>aB.is h) rfl)
   (lB (Dp iI rfl (by omega) rfl)
   (lB (fh (i:=j) (sz:=2) (n:=n) (F:=(Nf (upto j z) k)) Try.underlying29 (by kernel_rfl) (fun _ _ h=>aC.arr h) aa (by omega) rfl rfl)
   (lB (ge (i:=j) (n:=n) (F:=(fun ι w v=>au w v ((upto j z) ι) k)) (F':=(fun ι w v=>au w v ((upto (j+1) z) ι) k)) (G:=Nw (z j) k) (.tmp 18) (.tmp 19) (by kernel_rfl) aa aa (by omega) aa rfl (fun _ _ h=>au.cells h) (fun _ _ _ _ g h=>au.kp h g) (fun _ _ _ g h=>au.kp h g) (fun i w v hi h=>by rw [LE hi];exact h) (fun w v h=>h.eq (LG j z).symm) rfl)
   (lB (bt aa (by omega) rfl (by omega) (by omega))
   aA)))))))⟩)
   (lB (tlF aa aa)
   aA)
   (fun q hq w v h=>by
    simp only [tB,List.mem_cons,List.not_mem_nil,or_false] at hq
    rcases hq with rfl
    ·exact (fun h=>h) h)) (lB (eA [1] (em (z:=(upto n z)) (n:=n) (k:=k) (F:=(Nf (upto n z) k)) (fun _ _ h=>aC.rw h) (fun _ _ _ h=>au.i h) (fun _ _ _ _ g h=>au.kp h g) rfl (by omega) (by omega)))
   aA)))))
  (aJ [.fact 0 (.one (.s)),.lit (.fn 37)] ⟨Rw.Is 2 (If z k) n,(fun _ h=>by cases h),trivial⟩) bg
def ow (z:Nat->Int) (n k:Nat):List WP:=[Rw 2 (If z k) n,Nz n,aC 2 66 (Nf (upto 0 (fun i=>-(z i))) k) n,Nz n,aC 2 66 (Nf (upto n (fun i=>-(z i))) k) n,Rw 2 (Nf (upto n (fun i=>-(z i))) k) (tl (upto n (fun i=>-(z i))) n)]
def Dq (z:Nat->Int) (n k:Nat) (j:Nat):List WP:=[Nz j,aC 2 66 (Nf (upto j (fun i=>-(z i))) k) n,fun _ _=>True,Ptr 2 (Iw (z j) k),Iw (z j) k,Nw (-(z j)) k,At 2,Ptr 2 (Nw ((upto j (fun i=>-(z i))) j) k),fun w v=>aC 2 66 (fun ι w v=>au w v ((upto (j+1) (fun i=>-(z i))) ι) k) n w v,Nz (j+1)]
def tD:bf:=⟨[0,1,4,8,9,10,11,12],[(.slot 13,.i),(.slot 5,.s)],[(.one 0,6),(.one 1,.bT [1] 7),(.one 1,.lo 1)],[.closed (.one (.ci .i64 0)),.frm 2,.frm 0],6,[(7,4)]⟩
def tE:List Step:=[bQ [.fact 6,.fact 3] oT (ai .lss),
   bQ [.fact 0,.fact 6] [oP 9] (aI 29),
   bQ [.fact 9] [oI 10] (aL 66),
   .base ⟨46,[.fact 10],[oI 11],false⟩,
   .base ⟨0,[.fact 7,.fact 6],[oP 13],.joint [1] 12 (aI 29)⟩,
   .base ⟨0,[.fact 7,.fact 6,.any,.fact 11],[oS 14],.put [] 1 0 12 (dN 66 (.tmp 18) (.tmp 19))⟩,
   bQ [.fact 6,.lit (.ci .i64 1)] [oN 15] (ai .add)]
def Dr:List Step:=[bQ [.fact 6,.fact 3] oF (ai .lss)]
def Ds:List Step:=[bQ [.fact 0] [oN 1] (aD 29),
   .base ⟨0,[.fact 1,.fact 1],[oS 2],.loose [] 1 0 (dZ 29)⟩,
   bQ [.fact 0] [oN 3] (aD 29),
   .loop tD [(tE,[.frm 15,.frm 14,.frm 0])] Dr,
   .base ⟨41,[.fact 4],[oS 5],.df [1] false⟩]
def Dt:List Out:=[oS 0,⟨.one (.lit (.fn 46)),[]⟩]
theorem Du {z:Nat->Int}{n k:Nat} (hn:n<=1000000) (hk:k<=500000):aj (ph (ow z n k)) Try.prog ⟨36,[.fact 0,.lit (.fn 46)],[oS 5],false⟩:=by
 skip
 exact aR Dt [oS 5] Ds Try.func36 (by kernel_rfl)
  (lB (aG (F:=(If z k)) Try.underlying29 aa rfl)
   (lB (iP (n:=n) (F:=(Nf (upto 0 (fun i=>-(z i))) k)) aa (by omega) (fun i w=>au.zero w k) rfl)
   (lB (aG (F:=(If z k)) Try.underlying29 aa rfl)
   (bI (counted n (fun j=>ph (ow z n k ++ Dq z n k j)) (fun _=>0) (fun j p hp=>bJ (show p<(ow z n k).length from hp)) ⟨fun _=>rfl,aa,aW,trivial⟩ (fun j hj=>by
   skip
   exact ⟨(tE,[.frm 15,.frm 14,.frm 0]),rfl,⟨aa,aa,aW,trivial⟩,(lB (bm aa aa)
   (lB (bc (i:=j) (F:=(If z k)) Try.underlying29 (by kernel_rfl) aa aa (by omega) rfl)
   (lB (cw (sz:=2) (F:=Iw (z j) k) (by kernel_rfl) (by kernel_rfl) aa (fun _ _ _ g h=>aB.kp h g) (fun _ _ h=>aB.is h) rfl)
   (lB (Dx iI rfl (by omega) rfl)
   (lB (fh (i:=j) (sz:=2) (n:=n) (F:=(Nf (upto j (fun i=>-(z i))) k)) Try.underlying29 (by kernel_rfl) (fun _ _ h=>aC.arr h) aa (by omega) rfl rfl)
   (lB (ge (i:=j) (n:=n) (F:=(fun ι w v=>au w v ((upto j (fun i=>-(z i))) ι) k)) (F':=(fun ι w v=>au w v ((upto (j+1) (fun i=>-(z i))) ι) k)) (G:=Nw (-(z j)) k) (.tmp 18) (.tmp 19) (by kernel_rfl) aa aa (by omega) aa rfl (fun _ _ h=>au.cells h) (fun _ _ _ _ g h=>au.kp h g) (fun _ _ _ g h=>au.kp h g) (fun i w v hi h=>by rw [LE hi];exact h) (fun w v h=>h.eq (LG j (fun i=>-(z i))).symm) rfl)
   (lB (bt aa (by omega) rfl (by omega) (by omega))
   aA)))))))⟩)
   (lB (tlF aa aa)
   aA)
   (fun q hq w v h=>by
    simp only [tD,List.mem_cons,List.not_mem_nil,or_false] at hq
    rcases hq with rfl
    ·exact (fun h=>h) h)) (lB (eA [1] (em (z:=(upto n (fun i=>-(z i)))) (n:=n) (k:=k) (F:=(Nf (upto n (fun i=>-(z i))) k)) (fun _ _ h=>aC.rw h) (fun _ _ _ h=>au.i h) (fun _ _ _ _ g h=>au.kp h g) rfl (by omega) (by omega)))
   aA)))))
  (aJ [.fact 0 (.one (.s)),.lit (.fn 46)] ⟨Rw.Is 2 (If z k) n,(fun _ h=>by cases h),trivial⟩) bg
def ox (z y:Nat->Int) (n m k l:Nat):List WP:=[Rw 2 (If z k) n,Rw 2 (If y l) m,Nz n,Nz m,Nz (max n m),fun w v=>aC 2 66 (fun ι w v=>au w v ((upto 0 (fun i=>upto n z i+upto m y i)) ι) (k+l+1)) (max n m) w v,Lm (max n m),Nz (max n m),fun w v=>aC 2 66 (fun ι w v=>au w v ((upto (max n m) (fun i=>upto n z i+upto m y i)) ι) (k+l+1)) (max n m) w v,fun w v=>Rw 2 (fun ι w v=>au w v ((upto (max n m) (fun i=>upto n z i+upto m y i)) ι) (k+l+1)) (tl (upto (max n m) (fun i=>upto n z i+upto m y i)) (max n m)) w v]
def Dy (z y:Nat->Int) (n m k l:Nat) (j:Nat):List WP:=[Nz j,fun w v=>aC 2 66 (fun ι w v=>au w v ((upto j (fun i=>upto n z i+upto m y i)) ι) (k+l+1)) (max n m) w v,fun _ _=>True,Iw (upto n z j) k,Iw (upto m y j) l,Nw ((upto n z j)+(upto m y j)) (k+l+1),At 2,Ptr 2 (Nw ((upto j (fun i=>upto n z i+upto m y i)) j) (k+l+1)),fun w v=>aC 2 66 (fun ι w v=>au w v ((upto (j+1) (fun i=>upto n z i+upto m y i)) ι) (k+l+1)) (max n m) w v,Nz (j+1)]
def tF:bf:=⟨[0,1,2,6,9,10,11,12,13,14,15,16],[(.slot 17,.i),(.slot 7,.s)],[(.one 0,10),(.one 1,.bT [1] 11),(.one 1,.lo 1)],[.closed (.one (.ci .i64 0)),.frm 5,.frm 0],10,[(11,8)]⟩
def tG:List Step:=[bQ [.fact 10,.fact 7] oT (ai .lss),
   .base ⟨68,[.fact 0,.fact 10],[oI 13],false⟩,
   .base ⟨68,[.fact 1,.fact 10],[oI 14],false⟩,
   .base ⟨40,[.fact 13,.fact 14],[oI 15],false⟩,
   .base ⟨0,[.fact 11,.fact 10],[oP 17],.joint [1] 16 (aI 29)⟩,
   .base ⟨0,[.fact 11,.fact 10,.any,.fact 15],[oS 18],.put [] 1 0 16 (dN 66 (.tmp 20) (.tmp 21))⟩,
   bQ [.fact 10,.lit (.ci .i64 1)] [oN 19] (ai .add)]
def Dz:List Step:=[bQ [.fact 10,.fact 7] oF (ai .lss)]
def DA:List Step:=[bQ [.fact 0] [oN 2] (aD 29),
   bQ [.fact 1] [oN 3] (aD 29),
   bQ [.fact 2,.fact 3] [oN 4] (ef .max),
   .base ⟨0,[.fact 4,.fact 4],[oS 5],.loose [] 1 0 (dZ 29)⟩,
   .freed (.one (.s 7 0)) 5 6,
   bQ [.fact 6] [oN 7] (aD 29),
   .loop tF [(tG,[.frm 19,.frm 18,.frm 0])] Dz,
   .base ⟨41,[.fact 8],[oS 9],.df [1] false⟩]
def DB:List Out:=[oS 0,oS 1,⟨.one (.lit (.fn 40)),[]⟩]
theorem DC {z y:Nat->Int}{n m k l:Nat} (hn:n<=1000000) (hm:m<=1000000) (hk:k<=200000) (hl:l<=200000):aj (ph (ox z y n m k l)) Try.prog ⟨39,[.fact 0,.fact 1,.lit (.fn 40)],[oS 9],false⟩:=by
 skip
 exact aR DB [oS 9] DA Try.func39 (by kernel_rfl)
  (lB (aG (F:=(If z k)) Try.underlying29 aa rfl)
   (lB (aG (F:=(If y l)) Try.underlying29 aa rfl)
   (lB (iD aa aa (by split <;> omega) rfl)
   (lB (iP (n:=(max n m)) (F:=(fun ι w v=>au w v ((upto 0 (fun i=>upto n z i+upto m y i)) ι) (k+l+1))) aa (by omega) (fun i w=>au.zero w (k+l+1)) rfl)
   (jA (og (e:=66) (sz:=2) (n:=(max n m)) (F:=(fun ι w v=>au w v ((upto 0 (fun i=>upto n z i+upto m y i)) ι) (k+l+1))) aa rfl)
   (lB (jB (n:=(max n m)) Try.underlying29 aa rfl)
   (bI (counted (max n m) (fun j=>ph (ox z y n m k l ++ Dy z y n m k l j)) (fun _=>0) (fun j p hp=>bJ (show p<(ox z y n m k l).length from hp)) ⟨fun _=>rfl,aa,aW,trivial⟩ (fun j hj=>by
   skip
   exact ⟨(tG,[.frm 19,.frm 18,.frm 0]),rfl,⟨aa,aa,aW,trivial⟩,(lB (bm aa aa)
   (lB (lS (z:=z) (n:=n) (i:=j) (Rw.To 2 (If z k) n (fun _ _ _ _ h=>h)) aa rfl (by omega) (fun h=>(el h).symm) (fun h=>if_neg (by omega)))
   (lB (lS (z:=y) (n:=m) (i:=j) (Rw.To 2 (If y l) m (fun _ _ _ _ h=>h)) aa rfl (by omega) (fun h=>(el h).symm) (fun h=>if_neg (by omega)))
   (lB (tH iI iI rfl (by omega) rfl)
   (lB (fh (i:=j) (sz:=2) (n:=(max n m)) (F:=(fun ι w v=>au w v ((upto j (fun i=>upto n z i+upto m y i)) ι) (k+l+1))) Try.underlying29 (by kernel_rfl) (fun _ _ h=>aC.arr h) aa (by omega) rfl rfl)
   (lB (ge (i:=j) (n:=(max n m)) (F:=(fun ι w v=>au w v ((upto j (fun i=>upto n z i+upto m y i)) ι) (k+l+1))) (F':=(fun ι w v=>au w v ((upto (j+1) (fun i=>upto n z i+upto m y i)) ι) (k+l+1))) (G:=Nw ((upto n z j)+(upto m y j)) (k+l+1)) (.tmp 20) (.tmp 21) (by kernel_rfl) aa aa (by omega) aa rfl (fun _ _ h=>au.cells h) (fun _ _ _ _ g h=>au.kp h g) (fun _ _ _ g h=>au.kp h g) (fun i w v hi h=>by rw [LE hi];exact h) (fun w v h=>h.eq (LG j (fun i=>upto n z i+upto m y i)).symm) rfl)
   (lB (bt aa (by omega) rfl (by omega) (by omega))
   aA)))))))⟩)
   (lB (tlF aa aa)
   aA)
   (fun q hq w v h=>by
    simp only [tF,List.mem_cons,List.not_mem_nil,or_false] at hq
    rcases hq with rfl
    ·exact (fun h=>h) h)) (lB (eA [1] (em (z:=(upto (max n m) (fun i=>upto n z i+upto m y i))) (n:=(max n m)) (k:=(k+l+1)) (F:=(fun ι w v=>au w v ((upto (max n m) (fun i=>upto n z i+upto m y i)) ι) (k+l+1))) (fun _ _ h=>aC.rw h) (fun _ _ _ h=>au.i h) (fun _ _ _ _ g h=>au.kp h g) rfl (by omega) (by omega)))
   aA))))))))
  (aJ [.fact 0 (.one (.s)),.fact 1 (.one (.s)),.lit (.fn 40)] ⟨Rw.Is 2 (If z k) n,Rw.Is 2 (If y l) m,(fun _ h=>by cases h),trivial⟩) bg
def oy (z y:Nat->Int) (n m k l:Nat):List WP:=[Rw 2 (If z k) n,Rw 2 (If y l) m,Nz n,Nz m,Nz (max n m),fun w v=>aC 2 66 (fun ι w v=>au w v ((upto 0 (fun i=>upto n z i-upto m y i)) ι) (k+l+1)) (max n m) w v,Lm (max n m),Nz (max n m),fun w v=>aC 2 66 (fun ι w v=>au w v ((upto (max n m) (fun i=>upto n z i-upto m y i)) ι) (k+l+1)) (max n m) w v,fun w v=>Rw 2 (fun ι w v=>au w v ((upto (max n m) (fun i=>upto n z i-upto m y i)) ι) (k+l+1)) (tl (upto (max n m) (fun i=>upto n z i-upto m y i)) (max n m)) w v]
def DD (z y:Nat->Int) (n m k l:Nat) (j:Nat):List WP:=[Nz j,fun w v=>aC 2 66 (fun ι w v=>au w v ((upto j (fun i=>upto n z i-upto m y i)) ι) (k+l+1)) (max n m) w v,fun _ _=>True,Iw (upto n z j) k,Iw (upto m y j) l,Nw ((upto n z j)-(upto m y j)) (k+l+1),At 2,Ptr 2 (Nw ((upto j (fun i=>upto n z i-upto m y i)) j) (k+l+1)),fun w v=>aC 2 66 (fun ι w v=>au w v ((upto (j+1) (fun i=>upto n z i-upto m y i)) ι) (k+l+1)) (max n m) w v,Nz (j+1)]
def tI:bf:=⟨[0,1,2,6,9,10,11,12,13,14,15,16],[(.slot 17,.i),(.slot 7,.s)],[(.one 0,10),(.one 1,.bT [1] 11),(.one 1,.lo 1)],[.closed (.one (.ci .i64 0)),.frm 5,.frm 0],10,[(11,8)]⟩
def tJ:List Step:=[bQ [.fact 10,.fact 7] oT (ai .lss),
   .base ⟨68,[.fact 0,.fact 10],[oI 13],false⟩,
   .base ⟨68,[.fact 1,.fact 10],[oI 14],false⟩,
   .base ⟨79,[.fact 13,.fact 14],[oI 15],false⟩,
   .base ⟨0,[.fact 11,.fact 10],[oP 17],.joint [1] 16 (aI 29)⟩,
   .base ⟨0,[.fact 11,.fact 10,.any,.fact 15],[oS 18],.put [] 1 0 16 (dN 66 (.tmp 20) (.tmp 21))⟩,
   bQ [.fact 10,.lit (.ci .i64 1)] [oN 19] (ai .add)]
def DE:List Step:=[bQ [.fact 10,.fact 7] oF (ai .lss)]
def DF:List Step:=[bQ [.fact 0] [oN 2] (aD 29),
   bQ [.fact 1] [oN 3] (aD 29),
   bQ [.fact 2,.fact 3] [oN 4] (ef .max),
   .base ⟨0,[.fact 4,.fact 4],[oS 5],.loose [] 1 0 (dZ 29)⟩,
   .freed (.one (.s 7 0)) 5 6,
   bQ [.fact 6] [oN 7] (aD 29),
   .loop tI [(tJ,[.frm 19,.frm 18,.frm 0])] DE,
   .base ⟨41,[.fact 8],[oS 9],.df [1] false⟩]
def DG:List Out:=[oS 0,oS 1,⟨.one (.lit (.fn 79)),[]⟩]
theorem DH {z y:Nat->Int}{n m k l:Nat} (hn:n<=1000000) (hm:m<=1000000) (hk:k<=200000) (hl:l<=200000):aj (ph (oy z y n m k l)) Try.prog ⟨39,[.fact 0,.fact 1,.lit (.fn 79)],[oS 9],false⟩:=by
 skip
 exact aR DG [oS 9] DF Try.func39 (by kernel_rfl)
  (lB (aG (F:=(If z k)) Try.underlying29 aa rfl)
   (lB (aG (F:=(If y l)) Try.underlying29 aa rfl)
   (lB (iD aa aa (by split <;> omega) rfl)
   (lB (iP (n:=(max n m)) (F:=(fun ι w v=>au w v ((upto 0 (fun i=>upto n z i-upto m y i)) ι) (k+l+1))) aa (by omega) (fun i w=>au.zero w (k+l+1)) rfl)
   (jA (og (e:=66) (sz:=2) (n:=(max n m)) (F:=(fun ι w v=>au w v ((upto 0 (fun i=>upto n z i-upto m y i)) ι) (k+l+1))) aa rfl)
   (lB (jB (n:=(max n m)) Try.underlying29 aa rfl)
   (bI (counted (max n m) (fun j=>ph (oy z y n m k l ++ DD z y n m k l j)) (fun _=>0) (fun j p hp=>bJ (show p<(oy z y n m k l).length from hp)) ⟨fun _=>rfl,aa,aW,trivial⟩ (fun j hj=>by
   skip
   exact ⟨(tJ,[.frm 19,.frm 18,.frm 0]),rfl,⟨aa,aa,aW,trivial⟩,(lB (bm aa aa)
   (lB (lS (z:=z) (n:=n) (i:=j) (Rw.To 2 (If z k) n (fun _ _ _ _ h=>h)) aa rfl (by omega) (fun h=>(el h).symm) (fun h=>if_neg (by omega)))
   (lB (lS (z:=y) (n:=m) (i:=j) (Rw.To 2 (If y l) m (fun _ _ _ _ h=>h)) aa rfl (by omega) (fun h=>(el h).symm) (fun h=>if_neg (by omega)))
   (lB (Dh iI iI rfl (by omega) rfl)
   (lB (fh (i:=j) (sz:=2) (n:=(max n m)) (F:=(fun ι w v=>au w v ((upto j (fun i=>upto n z i-upto m y i)) ι) (k+l+1))) Try.underlying29 (by kernel_rfl) (fun _ _ h=>aC.arr h) aa (by omega) rfl rfl)
   (lB (ge (i:=j) (n:=(max n m)) (F:=(fun ι w v=>au w v ((upto j (fun i=>upto n z i-upto m y i)) ι) (k+l+1))) (F':=(fun ι w v=>au w v ((upto (j+1) (fun i=>upto n z i-upto m y i)) ι) (k+l+1))) (G:=Nw ((upto n z j)-(upto m y j)) (k+l+1)) (.tmp 20) (.tmp 21) (by kernel_rfl) aa aa (by omega) aa rfl (fun _ _ h=>au.cells h) (fun _ _ _ _ g h=>au.kp h g) (fun _ _ _ g h=>au.kp h g) (fun i w v hi h=>by rw [LE hi];exact h) (fun w v h=>h.eq (LG j (fun i=>upto n z i-upto m y i)).symm) rfl)
   (lB (bt aa (by omega) rfl (by omega) (by omega))
   aA)))))))⟩)
   (lB (tlF aa aa)
   aA)
   (fun q hq w v h=>by
    simp only [tI,List.mem_cons,List.not_mem_nil,or_false] at hq
    rcases hq with rfl
    ·exact (fun h=>h) h)) (lB (eA [1] (em (z:=(upto (max n m) (fun i=>upto n z i-upto m y i))) (n:=(max n m)) (k:=(k+l+1)) (F:=(fun ι w v=>au w v ((upto (max n m) (fun i=>upto n z i-upto m y i)) ι) (k+l+1))) (fun _ _ h=>aC.rw h) (fun _ _ _ h=>au.i h) (fun _ _ _ _ g h=>au.kp h g) rfl (by omega) (by omega)))
   aA))))))))
  (aJ [.fact 0 (.one (.s)),.fact 1 (.one (.s)),.lit (.fn 79)] ⟨Rw.Is 2 (If z k) n,Rw.Is 2 (If y l) m,(fun _ h=>by cases h),trivial⟩) bg
section
variable {Φ:PH}{p q x n m k l:Nat}{z y:Nat->Int}{L:List Int}
theorem DI (hp:∀w v,Φ p w v->Rw 2 (If z k) n w v) (hx:Φ x=Rw 2 (Nf (ae L) k) L.length) (hn:n<=1000000) (hk:k<=500000) (hL:ad (mk n z)=L):aj Φ Try.prog ⟨36,[.fact p,.lit (.fn 37)],[oS x],false⟩:=
 aT (Do hn hk) ⟨hp,rfl,trivial⟩ ⟨⟨rfl,⟨rfl,rfl,fun _ _ h=>hx▸hL▸LH h⟩,trivial⟩,trivial⟩
theorem DJ (hp:∀w v,Φ p w v->Rw 2 (If z k) n w v) (hx:Φ x=Rw 2 (Nf (ae L) k) L.length) (hn:n<=1000000) (hk:k<=500000) (hL:ad (mk n (fun i=>-(z i)))=L):aj Φ Try.prog ⟨36,[.fact p,.lit (.fn 46)],[oS x],false⟩:=
 aT (Du hn hk) ⟨hp,rfl,trivial⟩ ⟨⟨rfl,⟨rfl,rfl,fun _ _ h=>hx▸hL▸LH h⟩,trivial⟩,trivial⟩
theorem DK (hp:∀w v,Φ p w v->Rw 2 (If z k) n w v) (hq:∀w v,Φ q w v->Rw 2 (If y l) m w v) (hx:Φ x=Rw 2 (Nf (ae L) (k+l+1)) L.length) (hn:n<=1000000) (hm:m<=1000000) (hk:k<=200000) (hl:l<=200000) (hL:ad (mk (max n m) (fun i=>upto n z i+upto m y i))=L):aj Φ Try.prog ⟨39,[.fact p,.fact q,.lit (.fn 40)],[oS x],false⟩:=
 aT (DC hn hm hk hl) ⟨hp,hq,rfl,trivial⟩ ⟨⟨rfl,⟨rfl,rfl,fun _ _ h=>hx▸hL▸LH h⟩,trivial⟩,trivial⟩
theorem DL (hp:∀w v,Φ p w v->Rw 2 (If z k) n w v) (hq:∀w v,Φ q w v->Rw 2 (If y l) m w v) (hx:Φ x=Rw 2 (Nf (ae L) (k+l+1)) L.length) (hn:n<=1000000) (hm:m<=1000000) (hk:k<=200000) (hl:l<=200000) (hL:ad (mk (max n m) (fun i=>upto n z i-upto m y i))=L):aj Φ Try.prog ⟨39,[.fact p,.fact q,.lit (.fn 79)],[oS x],false⟩:=
 aT (DH hn hm hk hl) ⟨hp,hq,rfl,trivial⟩ ⟨⟨rfl,⟨rfl,rfl,fun _ _ h=>hx▸hL▸LH h⟩,trivial⟩,trivial⟩
end
def DM (z:Nat->Int) (n k:Nat):List WP:=[Rw 2 (If z k) n,Rw 2 (Nf (ae (ad (mk n z))) k) ((ad (mk n z)).length)]
def DN:List Step:=[.base ⟨36,[.fact 0,.lit (.fn 37)],[oS 1],false⟩]
def DO:List Out:=[oS 0]
theorem DP {z:Nat->Int}{n k:Nat} (hn:n<=1000000) (hk:k<=500000):aj (ph (DM z n k)) Try.prog ⟨16,[.fact 0],[oS 1],false⟩:=by
 skip
 exact aR DO [oS 1] DN Try.func16 (by kernel_rfl)
  (lB (DI (Rw.To 2 (If z k) n (fun _ _ _ _ h=>h)) rfl (by omega) (by omega) rfl)
   aA)
  (aJ [.fact 0 (.one (.s))] ⟨Rw.Is 2 (If z k) n,trivial⟩) bg
def DQ (z:Nat->Int) (n k:Nat):List WP:=[Rw 2 (If z k) n,Rw 2 (Nf (ae (ad (mk n (fun i=>-(z i))))) k) ((ad (mk n (fun i=>-(z i)))).length)]
def DR:List Step:=[.base ⟨36,[.fact 0,.lit (.fn 46)],[oS 1],false⟩]
def DS:List Out:=[oS 0]
theorem DT {z:Nat->Int}{n k:Nat} (hn:n<=1000000) (hk:k<=500000):aj (ph (DQ z n k)) Try.prog ⟨22,[.fact 0],[oS 1],false⟩:=by
 skip
 exact aR DS [oS 1] DR Try.func22 (by kernel_rfl)
  (lB (DJ (Rw.To 2 (If z k) n (fun _ _ _ _ h=>h)) rfl (by omega) (by omega) rfl)
   aA)
  (aJ [.fact 0 (.one (.s))] ⟨Rw.Is 2 (If z k) n,trivial⟩) bg
def DU (z y:Nat->Int) (n m k l:Nat):List WP:=[Rw 2 (If z k) n,Rw 2 (If y l) m,fun w v=>Rw 2 (fun ι w v=>au w v ((ae (ad (mk (max n m) (fun i=>upto n z i+upto m y i)))) ι) (k+l+1)) ((ad (mk (max n m) (fun i=>upto n z i+upto m y i))).length) w v]
def DV:List Step:=[.base ⟨39,[.fact 0,.fact 1,.lit (.fn 40)],[oS 2],false⟩]
def DW:List Out:=[oS 0,oS 1]
theorem DX {z y:Nat->Int}{n m k l:Nat} (hn:n<=1000000) (hm:m<=1000000) (hk:k<=200000) (hl:l<=200000):aj (ph (DU z y n m k l)) Try.prog ⟨19,[.fact 0,.fact 1],[oS 2],false⟩:=by
 skip
 exact aR DW [oS 2] DV Try.func19 (by kernel_rfl)
  (lB (DK (Rw.To 2 (If z k) n (fun _ _ _ _ h=>h)) (Rw.To 2 (If y l) m (fun _ _ _ _ h=>h)) rfl (by omega) (by omega) (by omega) (by omega) rfl)
   aA)
  (aJ [.fact 0 (.one (.s)),.fact 1 (.one (.s))] ⟨Rw.Is 2 (If z k) n,Rw.Is 2 (If y l) m,trivial⟩) bg
def DY (z y:Nat->Int) (n m k l:Nat):List WP:=[Rw 2 (If z k) n,Rw 2 (If y l) m,fun w v=>Rw 2 (fun ι w v=>au w v ((ae (ad (mk (max n m) (fun i=>upto n z i-upto m y i)))) ι) (k+l+1)) ((ad (mk (max n m) (fun i=>upto n z i-upto m y i))).length) w v]
def DZ:List Step:=[.base ⟨39,[.fact 0,.fact 1,.lit (.fn 79)],[oS 2],false⟩]
def NY:List Out:=[oS 0,oS 1]
theorem NZ {z y:Nat->Int}{n m k l:Nat} (hn:n<=1000000) (hm:m<=1000000) (hk:k<=200000) (hl:l<=200000):aj (ph (DY z y n m k l)) Try.prog ⟨50,[.fact 0,.fact 1],[oS 2],false⟩:=by
 skip
 exact aR NY [oS 2] DZ Try.func50 (by kernel_rfl)
  (lB (DL (Rw.To 2 (If z k) n (fun _ _ _ _ h=>h)) (Rw.To 2 (If y l) m (fun _ _ _ _ h=>h)) rfl (by omega) (by omega) (by omega) (by omega) rfl)
   aA)
  (aJ [.fact 0 (.one (.s)),.fact 1 (.one (.s))] ⟨Rw.Is 2 (If z k) n,Rw.Is 2 (If y l) m,trivial⟩) bg
section
variable {z y:Nat->Int}{l j i p:Nat}
theorem Ob:co z y l j 0 p=cL z y l j p:=by
 unfold co
 rw [if_neg (by omega)];omega
theorem Oc (h:p≠j+i):co z y l j (i+1) p=co z y l j i p:=by
 unfold co
 split <;> split <;> first | rfl | omega
theorem Od:co z y l j i (j+i)+z j*y i=co z y l j (i+1) (j+i):=by
 unfold co
 rw [if_neg (by omega),if_pos (by omega),show j+i-j=i by omega];omega
end
def LI (z y:Nat->Int) (n m k l K:Nat):List WP:=[Rw 2 (If z k) n,Rw 2 (If y l) m,Rw 2 (If z k) (tl z n),Rw 2 (If y l) (tl y m),Nz (tl z n),Nz (tl y m),Nz (tl z n),Nz (tl y m),Nz ((tl z n)+(tl y m)),Nz ((tl z n)+(tl y m)-1),aC 2 66 (Nf (cL z y (tl y m) 0) K) ((tl z n)+(tl y m)-1),Nz (tl z n),aC 2 66 (Nf (cL z y (tl y m) (tl z n)) K) ((tl z n)+(tl y m)-1)]
def Oe (z y:Nat->Int) (n m k l K:Nat) (j i:Nat):List WP:=[Nz i,aC 2 66 (Nf (co z y (tl y m) j i) K) ((tl z n)+(tl y m)-1),fun _ _=>True,Ptr 2 (Iw (y i) l),Iw (y i) l,Nz (j+i),Nz (j+i),At 2,Ptr 2 (Nw ((co z y (tl y m) j i) (j+i)) K),Nw ((co z y (tl y m) j i) (j+i)) K,Nw ((z j)*(y i)) (k+l),Nw (((co z y (tl y m) j i) (j+i))+((z j)*(y i))) (K+(k+l)+1),At 2,Ptr 2 (Nw ((co z y (tl y m) j i) (j+i)) K),fun w v=>aC 2 66 (fun ι w v=>au w v ((co z y (tl y m) j (i+1)) ι) K) ((tl z n)+(tl y m)-1) w v,Nz (i+1)]
def tK:bf:=⟨[0,1,4,6,7,10,11,12,13,14,15,16,17,18,19,20,21,22,23,24,25,26,27,28,29,30,31,32,33,34,35,36,37],[(.slot 38,.i),(.slot 5,.s)],[(.one 0,21),(.one 1,.bT [1] 22),(.one 1,.lo 1)],[.closed (.one (.ci .i64 0)),.frm 14,.frm 0],21,[(22,19)]⟩
def tL:List Step:=[bQ [.fact 21,.fact 18] oT (ai .lss),
   bQ [.fact 3,.fact 21] [oP 24] (aI 29),
   bQ [.fact 24] [oI 25] (aL 66),
   bQ [.fact 13,.fact 21] [oN 26] (ai .add),
   bQ [.fact 13,.fact 21] [oN 27] (ai .add),
   .base ⟨0,[.fact 22,.fact 27],[oP 29],.joint [1] 28 (aI 29)⟩,
   .base ⟨0,[.fact 29],[oI 30],.kb [1] (aL 66)⟩,
   .base ⟨42,[.fact 17,.fact 25],[oI 31],false⟩,
   .base ⟨40,[.fact 30,.fact 31],[oI 32],.df [1] false⟩,
   .base ⟨0,[.fact 22,.fact 26],[oP 34],.joint [1] 33 (aI 29)⟩,
   .base ⟨0,[.fact 22,.fact 26,.any,.fact 32],[oS 35],.put [] 1 0 33 (dN 66 (.tmp 43) (.tmp 46))⟩,
   bQ [.fact 21,.lit (.ci .i64 1)] [oN 36] (ai .add)]
def Of:List Step:=[bQ [.fact 21,.fact 18] oF (ai .lss)]
def oz (z y:Nat->Int) (n m k K:Nat) (j:Nat):List WP:=[Nz j,aC 2 66 (Nf (cL z y (tl y m) j) K) ((tl z n)+(tl y m)-1),fun _ _=>True,Ptr 2 (Iw (z j) k),Iw (z j) k,Nz (tl y m),aC 2 66 (Nf (co z y (tl y m) j (tl y m)) K) ((tl z n)+(tl y m)-1),Nz (j+1)]
def tM:bf:=⟨[0,1,4,10,11,12,13,14,15,16,17,18,19,20,21,22,23,24,25,26,27,28,29,30],[(.slot 31,.i),(.slot 5,.s)],[(.one 0,13),(.one 1,.bT [1] 14),(.one 1,.lo 1)],[.closed (.one (.ci .i64 0)),.frm 10,.frm 0],13,[(14,12)]⟩
def tN:List Step:=[bQ [.fact 13,.fact 11] oT (ai .lss),
   bQ [.fact 2,.fact 13] [oP 16] (aI 29),
   bQ [.fact 16] [oI 17] (aL 66),
   bQ [.fact 3] [oN 18] (aD 29),
   .loop tK [(tL,[.frm 36,.frm 35,.frm 0])] Of,
   bQ [.fact 13,.lit (.ci .i64 1)] [oN 20] (ai .add)]
def Og:List Step:=[bQ [.fact 13,.fact 11] oF (ai .lss)]
def Oh:List Step:=[.base ⟨41,[.fact 0],[oS 2],false⟩,
   .base ⟨41,[.fact 1],[oS 3],false⟩,
   bQ [.fact 2] [oN 4] (aD 29),
   bQ [.fact 4,.lit (.ci .i64 0)] oF (ai .eql),
   bQ [.fact 3] [oN 5] (aD 29),
   bQ [.fact 5,.lit (.ci .i64 0)] oF (ai .eql),
   bQ [.fact 2] [oN 6] (aD 29),
   bQ [.fact 3] [oN 7] (aD 29),
   bQ [.fact 6,.fact 7] [oN 8] (ai .add),
   bQ [.fact 8,.lit (.ci .i64 1)] [oN 9] (ai .sub),
   .base ⟨0,[.fact 9,.fact 9],[oS 10],.loose [] 1 0 (dZ 29)⟩,
   bQ [.fact 2] [oN 11] (aD 29),
   .loop tM [(tN,[.frm 20,.frm 19,.frm 0])] Og]
def Oi:List Out:=[oS 0,oS 1]
theorem Ea {z y:Nat->Int}{n m k l K:Nat} (hn:n<=400000) (hm:m<=400000) (hk:k<=100000) (hl:l<=100000) (hK:K<=300000) (h1:0<(tl z n)) (h2:0<(tl y m)) (hB:∀j i p,j<(tl z n)->i<=(tl y m)->Bd (co z y (tl y m) j i p).natAbs K):aj (ph (LI z y n m k l K)) Try.prog ⟨20,[.fact 0,.fact 1],[oS 12],false⟩:=by
 have hz:=bC z n;have hy:=bC y m
 exact aR Oi [oS 12] Oh Try.func20 (by kernel_rfl)
  (lB (em (z:=z) (n:=n) (k:=k) (F:=(If z k)) aa bg (fun _ _ _ _ g h=>aB.kp h g) rfl (by omega) (by omega))
   (lB (em (z:=y) (n:=m) (k:=l) (F:=(If y l)) aa bg (fun _ _ _ _ g h=>aB.kp h g) rfl (by omega) (by omega))
   (lB (aG (F:=(If z k)) Try.underlying29 aa rfl)
   (lB (iO aa)
   (lB (aG (F:=(If y l)) Try.underlying29 aa rfl)
   (lB (iO aa)
   (lB (aG (F:=(If z k)) Try.underlying29 aa rfl)
   (lB (aG (F:=(If y l)) Try.underlying29 aa rfl)
   (lB (cS aa aa (by omega) rfl (by omega) (by omega))
   (lB (Lc aa (by omega) rfl (by omega) (by omega))
   (lB (iP (n:=((tl z n)+(tl y m)-1)) (F:=(Nf (cL z y (tl y m) 0) K)) aa (by omega) (fun i w=>au.zero w K) rfl)
   (lB (aG (F:=(If z k)) Try.underlying29 aa rfl)
   (bI (counted (tl z n) (fun j=>ph (LI z y n m k l K ++ oz z y n m k K j)) (fun _=>0) (fun j p hp=>bJ (show p<(LI z y n m k l K).length from hp)) ⟨fun _=>rfl,aa,aW,trivial⟩ (fun j hj=>by
   skip
   exact ⟨(tN,[.frm 20,.frm 19,.frm 0]),rfl,⟨aa,aa,aW,trivial⟩,(lB (bm aa aa)
   (lB (bc (i:=j) (F:=(If z k)) Try.underlying29 (by kernel_rfl) aa aa (by omega) rfl)
   (lB (cw (sz:=2) (F:=Iw (z j) k) (by kernel_rfl) (by kernel_rfl) aa (fun _ _ _ g h=>aB.kp h g) (fun _ _ h=>aB.is h) rfl)
   (lB (aG (F:=(If y l)) Try.underlying29 aa rfl)
   (bI (counted (tl y m) (fun i=>ph ((LI z y n m k l K ++ oz z y n m k K j) ++ Oe z y n m k l K j i)) (fun _=>0) (fun i p hp=>bJ (show p<(LI z y n m k l K ++ oz z y n m k K j).length from hp)) ⟨fun _=>rfl,fun _ _ h=>aC.to (sz:=2) (e:=66) (n:=((tl z n)+(tl y m)-1)) (F:=(fun ι w v=>au w v ((cL z y (tl y m) j) ι) K)) (G:=(fun ι w v=>au w v ((co z y (tl y m) j 0) ι) K)) h fun a w v ha h=>by rw [Ob];exact h,aW,trivial⟩ (fun i hi=>by
   skip
   exact ⟨(tL,[.frm 36,.frm 35,.frm 0]),rfl,⟨aa,aa,aW,trivial⟩,(lB (bm aa aa)
   (lB (bc (i:=i) (F:=(If y l)) Try.underlying29 (by kernel_rfl) aa aa (by omega) rfl)
   (lB (cw (sz:=2) (F:=Iw (y i) l) (by kernel_rfl) (by kernel_rfl) aa (fun _ _ _ g h=>aB.kp h g) (fun _ _ h=>aB.is h) rfl)
   (lB (cS aa aa (by omega) rfl (by omega) (by omega))
   (lB (cS aa aa (by omega) rfl (by omega) (by omega))
   (lB (fh (i:=(j+i)) (sz:=2) (n:=((tl z n)+(tl y m)-1)) (F:=(Nf (co z y (tl y m) j i) K)) Try.underlying29 (by kernel_rfl) (fun _ _ h=>aC.arr h) aa (by omega) rfl rfl)
   (lB (cw (sz:=2) (F:=Nw ((co z y (tl y m) j i) (j+i)) K) (by kernel_rfl) (by kernel_rfl) aa (fun _ _ _ g h=>au.kp h g) (fun _ _ h=>au.is h) rfl)
   (lB (Eb iI iI rfl (by omega) rfl)
   (lB (eA [1] (tH nI nI rfl (by omega) rfl))
   (lB (fh (i:=(j+i)) (sz:=2) (n:=((tl z n)+(tl y m)-1)) (F:=(Nf (co z y (tl y m) j i) K)) Try.underlying29 (by kernel_rfl) (fun _ _ h=>aC.arr h) aa (by omega) rfl rfl)
   (lB (ge (i:=(j+i)) (n:=((tl z n)+(tl y m)-1)) (F:=(fun ι w v=>au w v ((co z y (tl y m) j i) ι) K)) (F':=(fun ι w v=>au w v ((co z y (tl y m) j (i+1)) ι) K)) (G:=Nw (((co z y (tl y m) j i) (j+i))+((z j)*(y i))) (K+(k+l)+1)) (.tmp 43) (.tmp 46) (by kernel_rfl) aa aa (by omega) aa rfl (fun _ _ h=>au.cells h) (fun _ _ _ _ g h=>au.kp h g) (fun _ _ _ g h=>au.kp h g) (fun a w v ha h=>by rw [Oc ha];exact h) (fun w v h=>au.re (h.eq Od) (hB j (i+1) (j+i) (by omega) (by omega))) rfl)
   (lB (bt aa (by omega) rfl (by omega) (by omega))
   aA))))))))))))⟩)
   (lB (tlF aa aa)
   aA)
   (fun q hq w v h=>by
    simp only [tK,List.mem_cons,List.not_mem_nil,or_false] at hq
    rcases hq with rfl
    ·exact (fun h=>h) h)) (lB (bt aa (by omega) rfl (by omega) (by omega))
   aA))))))⟩)
   (lB (tlF aa aa)
   aA)
   (fun q hq w v h=>by
    simp only [tM,List.mem_cons,List.not_mem_nil,or_false] at hq
    rcases hq with rfl
    ·exact (fun h=>h) h)) aA)))))))))))))
  (aJ [.fact 0 (.one (.s)),.fact 1 (.one (.s))] ⟨Rw.Is 2 (If z k) n,Rw.Is 2 (If y l) m,trivial⟩) bg
def Ec (z y:Nat->Int) (n m k l:Nat):List WP:=[Rw 2 (If z k) n,Rw 2 (If y l) m,Rw 2 (If z k) (tl z n),Rw 2 (If y l) (tl y m),Nz (tl z n)]
def Ed:List Step:=[.base ⟨41,[.fact 0],[oS 2],false⟩,
   .base ⟨41,[.fact 1],[oS 3],false⟩,
   bQ [.fact 2] [oN 4] (aD 29),
   bQ [.fact 4,.lit (.ci .i64 0)] oT (ai .eql)]
def Ee:List Out:=[oS 0,oS 1]
theorem Ef {z y:Nat->Int}{n m k l:Nat} (hn:n<=400000) (hm:m<=400000) (hk:k<=100000) (hl:l<=100000) (h1:(tl z n)=0):aj (ph (Ec z y n m k l)) Try.prog ⟨20,[.fact 0,.fact 1],[⟨.one (.lit (.nl)),[]⟩],false⟩:=by
 have hz:=bC z n;have hy:=bC y m
 exact aR Ee [⟨.one (.lit (.nl)),[]⟩] Ed Try.func20 (by kernel_rfl)
  (lB (em (z:=z) (n:=n) (k:=k) (F:=(If z k)) aa bg (fun _ _ _ _ g h=>aB.kp h g) rfl (by omega) (by omega))
   (lB (em (z:=y) (n:=m) (k:=l) (F:=(If y l)) aa bg (fun _ _ _ _ g h=>aB.kp h g) rfl (by omega) (by omega))
   (lB (aG (F:=(If z k)) Try.underlying29 aa rfl)
   (lB (lR aa)
   aA))))
  (aJ [.fact 0 (.one (.s)),.fact 1 (.one (.s))] ⟨Rw.Is 2 (If z k) n,Rw.Is 2 (If y l) m,trivial⟩) bg
def Eg (z y:Nat->Int) (n m k l:Nat):List WP:=[Rw 2 (If z k) n,Rw 2 (If y l) m,Rw 2 (If z k) (tl z n),Rw 2 (If y l) (tl y m),Nz (tl z n),Nz (tl y m)]
def Eh:List Step:=[.base ⟨41,[.fact 0],[oS 2],false⟩,
   .base ⟨41,[.fact 1],[oS 3],false⟩,
   bQ [.fact 2] [oN 4] (aD 29),
   bQ [.fact 4,.lit (.ci .i64 0)] oF (ai .eql),
   bQ [.fact 3] [oN 5] (aD 29),
   bQ [.fact 5,.lit (.ci .i64 0)] oT (ai .eql)]
def Ei:List Out:=[oS 0,oS 1]
theorem Ej {z y:Nat->Int}{n m k l:Nat} (hn:n<=400000) (hm:m<=400000) (hk:k<=100000) (hl:l<=100000) (h1:0<(tl z n)) (h2:(tl y m)=0):aj (ph (Eg z y n m k l)) Try.prog ⟨20,[.fact 0,.fact 1],[⟨.one (.lit (.nl)),[]⟩],false⟩:=by
 have hz:=bC z n;have hy:=bC y m
 exact aR Ei [⟨.one (.lit (.nl)),[]⟩] Eh Try.func20 (by kernel_rfl)
  (lB (em (z:=z) (n:=n) (k:=k) (F:=(If z k)) aa bg (fun _ _ _ _ g h=>aB.kp h g) rfl (by omega) (by omega))
   (lB (em (z:=y) (n:=m) (k:=l) (F:=(If y l)) aa bg (fun _ _ _ _ g h=>aB.kp h g) rfl (by omega) (by omega))
   (lB (aG (F:=(If z k)) Try.underlying29 aa rfl)
   (lB (iO aa)
   (lB (aG (F:=(If y l)) Try.underlying29 aa rfl)
   (lB (lR aa)
   aA))))))
  (aJ [.fact 0 (.one (.s)),.fact 1 (.one (.s))] ⟨Rw.Is 2 (If z k) n,Rw.Is 2 (If y l) m,trivial⟩) bg
def conv (f g:Nat->Int):Nat->Int
 | 0=>f 0*g 0
 | p+1=>f 0*g (p+1)+conv (fun x=>f (x+1)) g p
theorem tO:∀(p:Nat) (f g:Nat->Int),conv f g (p+1)=conv f (fun x=>g (x+1)) p+f (p+1)*g 0
 | 0,f,g=>rfl
 | p+1,f,g=>by
  rw [conv,tO p (fun x=>f (x+1)) g]
  simp only [conv]
  omega
theorem tP:∀(p:Nat) (f g:Nat->Int),conv f g p=conv g f p
 | 0,f,g=>Int.mul_comm _ _
 | p+1,f,g=>by
  rw [conv,tO p g f,tP p (fun x=>f (x+1)) g,Int.mul_comm (f 0)]
  omega
theorem nw {n i:Nat}{f:Nat->Int} (h:n<=i):upto n f i=0:=if_neg (by omega)
theorem Bd.mZ {A B i:Nat} (h:Bd A i) (k:Bd B i):Bd (A+B) (i+1):=by
 unfold Bd at *
 rw [Nat.pow_succ]
 generalize 4294967296 ^ i=M at *
 omega
def sumTo (f:Nat->Int):Nat->Int
 | 0=>0
 | n+1=>sumTo f n+f n
theorem sumTo_congr {f g:Nat->Int}:∀{n:Nat},(∀i,i<n->f i=g i)->sumTo f n=sumTo g n
 | 0,_=>rfl
 | n+1,h=>by simp only [sumTo];rw [sumTo_congr fun i hi=>h i (by omega),h n (by omega)]
theorem lU {f:Nat->Int}{n:Nat}:∀{k:Nat},(∀i,n<=i->i<n+k->f i=0)->sumTo f (n+k)=sumTo f n
 | 0,_=>rfl
 | k+1,h=>by
  rw [show n+(k+1)=(n+k)+1 by omega,sumTo,lU fun i h1 h2=>h i h1 (by omega),h (n+k) (by omega) (by omega)]
  omega
theorem tQ (f:Nat->Int):∀n,sumTo f (n+1)=f 0+sumTo (fun i=>f (i+1)) n
 | 0=>by simp [sumTo]
 | n+1=>by
  rw [sumTo,tQ f n]
  simp only [sumTo]
  omega
theorem oA:∀(p:Nat) (f g:Nat->Int),conv f g p=sumTo (fun x=>f x*g (p-x)) (p+1)
 | 0,f,g=>by simp [conv,sumTo]
 | p+1,f,g=>by
  rw [conv,oA p,tQ (fun x=>f x*g (p+1-x)) (p+1)]
  refine congrArg (f 0*g (p+1) + ·) (sumTo_congr fun i _=>?_)
  show f (i+1)*g (p-i)=f (i+1)*g (p+1-(i+1))
  rw [Nat.add_sub_add_right]
theorem tR (z y:Nat->Int) (l p:Nat):∀j,cL z y l j p=sumTo (fun x=>if x<=p∧p<x+l then z x*y (p-x) else 0) j
 | 0=>rfl
 | j+1=>by rw [cL,tR z y l p j];rfl
theorem gU {z:Nat->Int}{n i:Nat} (h:tl z n<=i):upto n z i=0:=by
 unfold upto
 split
 ·rename_i hi
  exact gR z n i h hi
 ·rfl
theorem Ek (z y:Nat->Int) (n m p:Nat):cL z y (tl y m) (tl z n) p=conv (upto n z) (upto m y) p:=by
 rw [tR,oA]
 have hz:=bC z n
 have hy:=bC y m
 have e1:sumTo (fun x=>if x<=p∧p<x+tl y m then z x*y (p-x) else 0) (tl z n)=sumTo (fun x=>if x<=p then upto n z x*upto m y (p-x) else 0) (tl z n):=sumTo_congr fun x hx=>by
  by_cases h1:x<=p
  ·rw [if_pos h1,el (by omega)]
   by_cases h2:p<x+tl y m
   ·rw [if_pos ⟨h1,h2⟩,el (by omega)]
   ·rw [if_neg (fun h=>h2 h.2),gU (by omega),Int.mul_zero]
  ·rw [if_neg (fun h=>h1 h.1),if_neg h1]
 have e2:sumTo (fun x=>upto n z x*upto m y (p-x)) (p+1)=sumTo (fun x=>if x<=p then upto n z x*upto m y (p-x) else 0) (p+1):=sumTo_congr fun x hx=>(if_pos (by omega)).symm
 rw [e1,e2]
 rcases Nat.le_total (tl z n) (p+1) with h | h
 ·have:=lU (f:=fun x=>if x<=p then upto n z x*upto m y (p-x) else 0) (n:=tl z n) (k:=p+1-tl z n) fun i h1 _=>by
   rw [gU h1,Int.zero_mul]
   split <;> rfl
  rw [show tl z n+(p+1-tl z n)=p+1 by omega] at this
  exact this.symm
 ·have:=lU (f:=fun x=>if x<=p then upto n z x*upto m y (p-x) else 0) (n:=p+1) (k:=tl z n-(p+1)) fun i h1 _=>if_neg (by omega)
  rw [show p+1+(tl z n-(p+1))=tl z n by omega] at this
  exact this
theorem tT {z y:Nat->Int}{l m:Nat} (hl:0<l):∀{j},j<=m->cL z y l j (m+l-1)=0
 | 0,_=>rfl
 | j+1,h=>by
  rw [cL,tT hl (by omega),if_neg (by omega)];rfl
theorem El {z y:Nat->Int}{l m:Nat} (hl:0<l):cL z y l (m+1) (m+l-1)=z m*y (l-1):=by
 rw [cL,tT hl (Nat.le_refl _),if_pos (by omega),show m+l-1-m=l-1 by omega,Int.zero_add]
def mulL (z:Nat->Int) (n:Nat) (y:Nat->Int) (m:Nat):List Int:=if tl z n=0∨tl y m=0 then [] else mk (tl z n+tl y m-1) (cL z y (tl y m) (tl z n))
theorem lV:∀{f g:Nat->Int},(∀i,f i=0)->∀p,conv f g p=0
 | _,_,h,0=>by simp only [conv];rw [h,Int.zero_mul]
 | _,_,h,p+1=>by
  simp only [conv]
  rw [h,Int.zero_mul,Int.zero_add,lV (fun i=>h (i+1)) p]
theorem Em {f g:Nat->Int}{a b p:Nat} (hf:∀i,a<=i->f i=0) (hg:∀i,b<=i->g i=0) (h:a+b<=p+1):conv f g p=0:=by
 rw [oA,show p+1=0+(p+1) by omega,lU (n:=0) fun i _ hi=>?_]
 ·rfl
 ·rcases Nat.lt_or_ge i a with h1 | h1
  ·rw [hg _ (by omega),Int.mul_zero]
  ·rw [hf _ h1,Int.zero_mul]
theorem En (z:Nat->Int) (n:Nat) (y:Nat->Int) (m p:Nat):ae (mulL z n y m) p=conv (upto n z) (upto m y) p:=by
 unfold mulL
 split
 ·rename_i h
  rw [dL (by simp)]
  rcases h with h | h
  ·exact (lV (fun i=>gU (by omega)) p).symm
  ·rw [tP];exact (lV (fun i=>gU (by omega)) p).symm
 ·rename_i h
  rw [dt]
  split
  ·exact Ek z y n m p
  ·exact (Em (a:=tl z n) (b:=tl y m) (fun i hi=>gU hi) (fun i hi=>gU hi) (by omega)).symm
theorem qV {z:Nat->Int}{n:Nat}{y:Nat->Int}{m:Nat} (h1:0<tl z n) (h2:0<tl y m):(mulL z n y m).length=tl z n+tl y m-1:=by
 unfold mulL
 rw [if_neg (by omega),eZ]
theorem Eo (z:Nat->Int) (n:Nat) (y:Nat->Int) (m:Nat):(mulL z n y m).length<=n+m:=by
 have:=bC z n
 have:=bC y m
 unfold mulL
 split
 ·simp
 ·rw [eZ];omega
theorem tU {z:Nat->Int}{n:Nat}{y:Nat->Int}{m:Nat} (h1:0<tl z n) (h2:0<tl y m):ae (mulL z n y m) (tl z n+tl y m-2)=z (tl z n-1)*y (tl y m-1):=by
 unfold mulL
 rw [if_neg (by omega),dt,if_pos (by omega)]
 obtain ⟨a,ha⟩:∃a,tl z n=a+1:=⟨tl z n-1,by omega⟩
 have:=El (z:=z) (y:=y) (l:=tl y m) (m:=a) h2
 rw [ha,show a+1+tl y m-2=a+tl y m-1 by omega,this,Nat.add_sub_cancel]
theorem mX (z:Nat->Int) (n:Nat) (y:Nat->Int) (m:Nat):dg (mulL z n y m):=fun h=>by
 by_cases h0:tl z n=0∨tl y m=0
 ·unfold mulL at h
  rw [if_pos h0] at h
  simp at h
 ·rw [qV (by omega) (by omega),show tl z n+tl y m-1-1=tl z n+tl y m-2 by omega,tU (by omega) (by omega)]
  exact Int.mul_ne_zero (fC z n (by omega)) (fC y m (by omega))
theorem oB {z y:Nat->Int}{l k k' c n:Nat} (hz:∀i,i<n->Bd (z i).natAbs k) (hy:∀i,i<l->Bd (y i).natAbs k'):∀{j},j<=n->j<=c->∀p,Bd (cL z y l j p).natAbs (k+k'+j)
 | 0,_,_,p=>Nat.pow_pos (by omega)
 | j+1,h1,h2,p=>by
  have h3:=oB (c:=c) hz hy (j:=j) (by omega) (by omega) p
  rw [cL]
  have h4:Bd (if j<=p∧p<j+l then z j*y (p-j) else 0).natAbs (k+k'+j):=by
   split
   ·rw [Int.natAbs_mul]
    exact (Bd.mul (hz j (by omega)) (hy _ (by omega))).more (by omega)
   ·exact Nat.pow_pos (by omega)
  exact (Bd.mZ h3 h4).le (Int.natAbs_add_le _ _)
theorem tV {z y:Nat->Int}{l k k' c n i:Nat} (hz:∀i,i<n->Bd (z i).natAbs k) (hy:∀i,i<l->Bd (y i).natAbs k'){j:Nat} (h1:j<n) (h2:n<=c) (hi:i<=l) (p:Nat):Bd (co z y l j i p).natAbs (k+k'+c+1):=by
 have h3:=oB (c:=c) hz hy (j:=j) (by omega) (by omega) p
 have h4:Bd (if j<=p∧p<j+i then z j*y (p-j) else 0).natAbs (k+k'+j):=by
  split
  ·rw [Int.natAbs_mul]
   exact (Bd.mul (hz j h1) (hy _ (by omega))).more (by omega)
  ·exact Nat.pow_pos (by omega)
 exact ((Bd.mZ h3 h4).le (Int.natAbs_add_le _ _)).more (by omega)
theorem Ep (z:Int):cn z z=0:=by
 unfold cn
 rw [if_neg (by omega),if_pos rfl]
def Eq (z:Int) (k l:Nat):List WP:=[Iw z k,Iw z l,Ni (cn z z)]
def Er:List Step:=[.base ⟨45,[.fact 0,.fact 1],[oN 2],false⟩,
   bQ [.fact 2,.lit (.ci .i64 0)] oT (ai .eql)]
def Es:List Out:=[oI 0,oI 1]
theorem Et {z:Int}{k l:Nat} (hk:k<=400000) (hl:l<=400000):aj (ph (Eq z k l)) Try.prog ⟨44,[.fact 0,.fact 1],oT,false⟩:=by
 skip
 exact aR Es oT Er Try.func44 (by kernel_rfl)
  (lB (lW iI iI rfl (by omega) rfl)
   (lB (bi (op:=.eql) aa (aS (decide_eq_true (Ep z)) (by simp)))
   aA))
  (aJ [.fact 0 (.agg [.b,.s]),.fact 1 (.agg [.b,.s])] ⟨fun _ _ h=>aB.is h,fun _ _ h=>aB.is h,trivial⟩) bg
theorem Eu {Φ:PH}{p q k l:Nat}{z:Int} (hp:∀w v,Φ p w v->aB w v z k) (hq:∀w v,Φ q w v->aB w v z l) (hk:k<=400000) (hl:l<=400000):aj Φ Try.prog ⟨44,[.fact p,.fact q],oT,false⟩:=
 aT (Et hk hl) ⟨hp,hq,trivial⟩ ⟨⟨rfl,trivial⟩,trivial⟩
def oC (z:Nat->Int) (n k l:Nat):List WP:=[Rw 2 (If z k) n,Rw 2 (If z l) n,Nz n,Nz n,Nz n]
def Ev (z:Nat->Int) (k l:Nat) (j:Nat):List WP:=[Nz j,Ptr 2 (Iw (z j) k),Iw (z j) k,Ptr 2 (Iw (z j) l),Iw (z j) l,Nz (j+1)]
def Ew:bf:=⟨[0,1,2,6,10,11,12,13,14,15,16],[(.slot 17,.i)],[(.one 0,5)],[.closed (.one (.ci .i64 0))],5,[]⟩
def tW:List Step:=[bQ [.fact 5,.fact 4] oT (ai .lss),
   bQ [.fact 0,.fact 5] [oP 6] (aI 29),
   bQ [.fact 6] [oI 7] (aL 66),
   bQ [.fact 1,.fact 5] [oP 8] (aI 29),
   bQ [.fact 8] [oI 9] (aL 66),
   .base ⟨44,[.fact 7,.fact 9],oT,false⟩,
   bQ [.fact 5,.lit (.ci .i64 1)] [oN 10] (ai .add)]
def Ey:List Step:=[bQ [.fact 5,.fact 4] oF (ai .lss)]
def Ez:List Step:=[bQ [.fact 0] [oN 2] (aD 29),
   bQ [.fact 1] [oN 3] (aD 29),
   bQ [.fact 2,.fact 3] oF (ai .neq),
   bQ [.fact 0] [oN 4] (aD 29),
   .loop Ew [(tW,[.frm 10])] Ey]
def EA:List Out:=[oS 0,oS 1,⟨.one (.lit (.fn 44)),[]⟩]
theorem EB {z:Nat->Int}{n k l:Nat} (hn:n<=1000000) (hk:k<=400000) (hl:l<=400000):aj (ph (oC z n k l)) Try.prog ⟨43,[.fact 0,.fact 1,.lit (.fn 44)],oT,false⟩:=by
 skip
 exact aR EA oT Ez Try.func43 (by kernel_rfl)
  (lB (aG (F:=(If z k)) Try.underlying29 aa rfl)
   (lB (aG (F:=(If z l)) Try.underlying29 aa rfl)
   (lB (cM (op:=.neq) aa aa (aS (decide_eq_false (fun h=>h rfl)) (by simp)))
   (lB (aG (F:=(If z k)) Try.underlying29 aa rfl)
   (bI (counted n (fun j=>ph (oC z n k l ++ Ev z k l j)) (fun _=>0) (fun j p hp=>bJ (show p<(oC z n k l).length from hp)) ⟨fun _=>rfl,trivial⟩ (fun j hj=>by
   skip
   exact ⟨(tW,[.frm 10]),rfl,⟨aa,trivial⟩,(lB (bm aa aa)
   (lB (bc (i:=j) (F:=(If z k)) Try.underlying29 (by kernel_rfl) aa aa (by omega) rfl)
   (lB (cw (sz:=2) (F:=Iw (z j) k) (by kernel_rfl) (by kernel_rfl) aa (fun _ _ _ g h=>aB.kp h g) (fun _ _ h=>aB.is h) rfl)
   (lB (bc (i:=j) (F:=(If z l)) Try.underlying29 (by kernel_rfl) aa aa (by omega) rfl)
   (lB (cw (sz:=2) (F:=Iw (z j) l) (by kernel_rfl) (by kernel_rfl) aa (fun _ _ _ g h=>aB.kp h g) (fun _ _ h=>aB.is h) rfl)
   (lB (Eu iI iI (by omega) (by omega))
   (lB (bt aa (by omega) rfl (by omega) (by omega))
   aA)))))))⟩)
   (lB (tlF aa aa)
   aA)
   (fun q hq=>by cases hq)) aA)))))
  (aJ [.fact 0 (.one (.s)),.fact 1 (.one (.s)),.lit (.fn 44)] ⟨Rw.Is 2 (If z k) n,Rw.Is 2 (If z l) n,(fun _ h=>by cases h),trivial⟩) bg
theorem EC {Φ:PH}{p q n m k l:Nat}{z y:Nat->Int} (hp:∀w v,Φ p w v->Rw 2 (If z k) n w v) (hq:∀w v,Φ q w v->Rw 2 (If y l) m w v) (hn:n<=1000000) (hk:k<=400000) (hl:l<=400000) (h:n=m) (hs:∀i,i<n->z i=y i):aj Φ Try.prog ⟨43,[.fact p,.fact q,.lit (.fn 44)],oT,false⟩:=by
 subst h
 exact aT (EB hn hk hl) ⟨hp,fun w v h=>Rw.to (F:=fun i w v=>aB w v (y i) l) (G:=fun i w v=>aB w v (z i) l) (hq w v h) fun i w v hi h=>by rw [hs i hi];exact h,rfl,trivial⟩ ⟨⟨rfl,trivial⟩,trivial⟩
def ED (z y:Nat->Int) (n m k l:Nat):List WP:=[Rw 2 (If z k) n,Rw 2 (If y l) m,Rw 2 (If z k) (tl z n),Rw 2 (If y l) (tl y m)]
def EE:List Step:=[.base ⟨41,[.fact 0],[oS 2],false⟩,
   .base ⟨41,[.fact 1],[oS 3],false⟩,
   .base ⟨43,[.fact 2,.fact 3,.lit (.fn 44)],oT,false⟩]
def EF:List Out:=[oS 0,oS 1]
theorem EG {z y:Nat->Int}{n m k l:Nat} (hn:n<=1000000) (hm:m<=1000000) (hk:k<=400000) (hl:l<=400000) (hs:tl z n=tl y m∧∀i,i<tl z n->z i=y i):aj (ph (ED z y n m k l)) Try.prog ⟨21,[.fact 0,.fact 1],oT,false⟩:=by
 have hz:=bC z n
 exact aR EF oT EE Try.func21 (by kernel_rfl)
  (lB (em (z:=z) (n:=n) (k:=k) (F:=(If z k)) aa bg (fun _ _ _ _ g h=>aB.kp h g) rfl (by omega) (by omega))
   (lB (em (z:=y) (n:=m) (k:=l) (F:=(If y l)) aa bg (fun _ _ _ _ g h=>aB.kp h g) rfl (by omega) (by omega))
   (lB (EC (Rw.To 2 (If z k) (tl z n) (fun _ _ _ _ h=>h)) (Rw.To 2 (If y l) (tl y m) (fun _ _ _ _ h=>h)) (by omega) (by omega) (by omega) hs.1 hs.2)
   aA)))
  (aJ [.fact 0 (.one (.s)),.fact 1 (.one (.s))] ⟨Rw.Is 2 (If z k) n,Rw.Is 2 (If y l) m,trivial⟩) bg
theorem tX {z y:Nat->Int}{n m:Nat} (h:∀i,upto n z i=upto m y i):tl z n<=tl y m:=by
 rcases Nat.lt_or_ge (tl y m) (tl z n) with h1 | h1
 ·have h2:=fC z n (by omega)
  have h3:=h (tl z n-1)
  have h4:=bC z n
  rw [el (by omega),gU (z:=y) (n:=m) (by omega)] at h3
  exact absurd h3 h2
 ·exact h1
theorem EH {z y:Nat->Int}{n m:Nat} (h:∀i,upto n z i=upto m y i):tl z n=tl y m∧∀i,i<tl z n->z i=y i:=by
 have e:=Nat.le_antisymm (tX h) (tX fun i=>(h i).symm)
 refine ⟨e,fun i hi=>?_⟩
 have h1:=h i
 have h2:=bC z n
 have h3:=bC y m
 rwa [el (by omega),el (by omega)] at h1
section
variable {Φ:PH}{p q x n m k l c:Nat}{z y:Nat->Int}{L:List Int}
theorem Bw (hp:∀w v,Φ p w v->Rw 2 (If z k) n w v) (hq:∀w v,Φ q w v->Rw 2 (If y l) m w v) (hn:n<=1000000) (hm:m<=1000000) (hk:k<=400000) (hl:l<=400000) (hs:∀i,upto n z i=upto m y i):aj Φ Try.prog ⟨21,[.fact p,.fact q],oT,false⟩:=
 aT (EG hn hm hk hl (EH hs)) ⟨hp,hq,trivial⟩ ⟨⟨rfl,trivial⟩,trivial⟩
theorem rq (hp:∀w v,Φ p w v->Rw 2 (If z k) n w v) (hx:Φ x=Rw 2 (Nf (ae L) k) L.length) (hn:n<=1000000) (hk:k<=500000) (hL:ad (mk n z)=L):aj Φ Try.prog ⟨16,[.fact p],[oS x],false⟩:=
 aT (DP hn hk) ⟨hp,trivial⟩ ⟨⟨rfl,⟨rfl,rfl,fun _ _ h=>hx▸hL▸h⟩,trivial⟩,trivial⟩
theorem zS (hp:∀w v,Φ p w v->Rw 2 (If z k) n w v) (hx:Φ x=Rw 2 (Nf (ae L) k) L.length) (hn:n<=1000000) (hk:k<=500000) (hL:ad (mk n (fun i=>-(z i)))=L):aj Φ Try.prog ⟨22,[.fact p],[oS x],false⟩:=
 aT (DT hn hk) ⟨hp,trivial⟩ ⟨⟨rfl,⟨rfl,rfl,fun _ _ h=>hx▸hL▸h⟩,trivial⟩,trivial⟩
theorem zQ (hp:∀w v,Φ p w v->Rw 2 (If z k) n w v) (hq:∀w v,Φ q w v->Rw 2 (If y l) m w v) (hx:Φ x=Rw 2 (Nf (ae L) (k+l+1)) L.length) (hn:n<=1000000) (hm:m<=1000000) (hk:k<=200000) (hl:l<=200000) (hL:ad (mk (max n m) (fun i=>upto n z i+upto m y i))=L):aj Φ Try.prog ⟨19,[.fact p,.fact q],[oS x],false⟩:=
 aT (DX hn hm hk hl) ⟨hp,hq,trivial⟩ ⟨⟨rfl,⟨rfl,rfl,fun _ _ h=>hx▸hL▸h⟩,trivial⟩,trivial⟩
theorem zT (hp:∀w v,Φ p w v->Rw 2 (If z k) n w v) (hq:∀w v,Φ q w v->Rw 2 (If y l) m w v) (hx:Φ x=Rw 2 (Nf (ae L) (k+l+1)) L.length) (hn:n<=1000000) (hm:m<=1000000) (hk:k<=200000) (hl:l<=200000) (hL:ad (mk (max n m) (fun i=>upto n z i-upto m y i))=L):aj Φ Try.prog ⟨50,[.fact p,.fact q],[oS x],false⟩:=
 aT (NZ hn hm hk hl) ⟨hp,hq,trivial⟩ ⟨⟨rfl,⟨rfl,rfl,fun _ _ h=>hx▸hL▸h⟩,trivial⟩,trivial⟩
theorem tY {w:World}{v:Value} (h:Rw 2 (If z k) n w v) (i:Nat) (hi:i<n):Bd (z i).natAbs k:=by
 obtain ⟨_,_,_,_,h1⟩:=h
 obtain ⟨_,_,_,l,_,_,h2⟩:=h1 i hi
 exact aB.bd' h2
theorem tZ {X:Nat->Prop}{w:World}{us:List Value}{K:Nat} (hx:Φ x=Rw 2 (Nf (ae L) K) L.length) (hL:L = []) (h:bk Φ X w [⟨.one (.lit .nl),[]⟩] us):bk Φ X w [oS x] us:=by
 subst hL
 match us,h with
 | [u],h=>
  obtain rfl:u = .slice none 0 0:=h.1.1.1
  exact cm ⟨⟨_,_,_,rfl⟩,fun _ h=>by cases h⟩ hx fun w1 _=>Rw.nil 2 _ w1
theorem zP (hp:∀w v,Φ p w v->Rw 2 (If z k) n w v) (hq:∀w v,Φ q w v->Rw 2 (If y l) m w v) (hx:Φ x=Rw 2 (Nf (ae L) (k+l+c+1)) L.length) (hn:n<=c) (hm:m<=400000) (hc:c<=1000) (hk:k<=100000) (hl:l<=100000) (hL:mulL z n y m=L):aj Φ Try.prog ⟨20,[.fact p,.fact q],[oS x],false⟩:=fun X w vs hX ha=>by
 match vs,ha with
 | [v,u],ha=>
  have hz:=tY (hp _ _ (ha.1 w (Off.refl _ _)))
  have hy:=tY (hq _ _ (ha.2.1 w (Off.refl _ _)))
  have hzl:=bC z n
  have hyl:=bC y m
  rcases Nat.eq_zero_or_pos (tl z n) with h1 | h1
  ·exact (aT (outs:=[⟨.one (.lit .nl),[]⟩]) (Φ:=Φ) (ar:=[.fact p,.fact q]) (Ef (z:=z) (y:=y) (n:=n) (m:=m) (k:=k) (l:=l) (by omega) hm hk hl h1) ⟨hp,hq,trivial⟩ ⟨⟨rfl,trivial⟩,trivial⟩ X w [v,u] hX ha).mono fun e w' ⟨hg,us,he,h2⟩=>⟨hg,us,he,tZ hx (by rw [<- hL,mulL,if_pos (.inl h1)]) h2⟩
  rcases Nat.eq_zero_or_pos (tl y m) with h2 | h2
  ·exact (aT (outs:=[⟨.one (.lit .nl),[]⟩]) (Φ:=Φ) (ar:=[.fact p,.fact q]) (Ej (z:=z) (y:=y) (n:=n) (m:=m) (k:=k) (l:=l) (by omega) hm hk hl h1 h2) ⟨hp,hq,trivial⟩ ⟨⟨rfl,trivial⟩,trivial⟩ X w [v,u] hX ha).mono fun e w' ⟨hg,us,he,h2'⟩=>⟨hg,us,he,tZ hx (by rw [<- hL,mulL,if_pos (.inr h2)]) h2'⟩
  ·refine aT (Φ:=Φ) (ar:=[.fact p,.fact q]) (outs:=[oS x]) (Ea (z:=z) (y:=y) (n:=n) (m:=m) (k:=k) (l:=l) (K:=k+l+c+1) (by omega) hm hk hl (by omega) h1 h2 fun j i p hj hi=>tV (n:=tl z n) (l:=tl y m) (c:=c) (fun i hi=>hz i (by omega)) (fun i hi=>hy i (by omega)) hj (by omega) hi p) ⟨hp,hq,trivial⟩ ⟨⟨rfl,⟨rfl,rfl,fun w v h=>?_⟩,trivial⟩,trivial⟩ X w [v,u] hX ha
   rw [hx,<- hL,mulL,if_neg (by omega),eZ]
   exact Rw.to (aC.rw (e:=66) (F:=fun i w v=>au w v (cL z y (tl y m) (tl z n) i) (k+l+c+1)) h) fun i w v hi h=>h.eq (by rw [dt,if_pos hi])
end
end Go.Proofs.Ytomamliepbhegaa.Sym
