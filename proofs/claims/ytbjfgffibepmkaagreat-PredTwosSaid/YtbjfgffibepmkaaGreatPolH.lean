/- poly.each and both (Norm -/
import Derived.Test.YtbjfgffibepmkaaGreatPolX
set_option maxRecDepth 100000
namespace Go.Proofs.YtbjfgffibepmkaaGreat.Sym
open Go.Proofs.Tryz
open Go.RowKit
variable {Φ:PH}{K i j k l m n p q:Nat}{f y z:Nat->Int}{w:World}
theorem Pu {x:Nat}{z y t:Int} (hp:∀w v,Φ p w v->aF w v z i) (hq:∀w v,Φ q w v->aF w v y j) (hx:Φ x=Nw t (i+j+1)) (ht:z-y=t) (hi:i+j<=1000000:=by omega):aj Φ prog ⟨102,[.fact p,.fact q],[⟨iS,[(0,0,x)]⟩],false⟩:=
 fw fun _ _ _ _ h0 h1=>((Mt (hp _ _ (get h0)) (hq _ _ (get h1)) hi).mono fun _ _ h=>h.got).mono fun _ _ h=>jj (ht▸hx) h
def dq (z y:Nat->Int) (l:Nat):Nat->Nat->Int
 | 0,_=>0
 | j+1,p=>dq z y l j p+(if j<=p∧p<j+l then z j*y (p-j) else 0)
def dI (z y:Nat->Int) (l:Nat) (j i p:Nat):Int:=dq z y l j p+(if j<=p∧p<j+i then z j*y (p-j) else 0)
def uN (z:Nat->Int) (n k:Nat):List WP:=[Rw 2 (If z k) n,Nz n,aC 2 27 (Nf (upto 0 z) k) n,Nz n,aC 2 27 (Nf (upto n z) k) n,Rw 2 (Nf (upto n z) k) (tl (upto n z) n)]
def Pw (z:Nat->Int) (n k:Nat) (j:Nat):List WP:=[Nz j,aC 2 27 (Nf (upto j z) k) n,fun _ _=>True,Ptr 2 (Iw (z j) k),Iw (z j) k,Nw (z j) k,At 2,Ptr 2 (Nw ((upto j z) j) k),fun w v=>aC 2 27 (fun ι w v=>ak w v ((upto (j+1) z) ι) k) n w v,Nz (j+1)]
def Ch:bJ:=⟨[0,1,4,8,9,10,11,12],[(.slot 13,.i),(.slot 5,.s)],[(.one 0,6),(.one 1,.cD [1] 7),(.one 1,.lo 1)],[.closed (.one (.ci .i64 0)),.frm 2,.frm 0],6,[(7,4)]⟩
def Ci:List Step:=[bQ [6,3] oT (au .lss),bQ [0,6] [oP 9] (aN 24),bQ [9] [oI 10] (aO 27),.base ⟨78,[10],[oI 11],false⟩,.base ⟨0,[7,6],[oP 13],.joint [1] 12 (aN 24)⟩,.base ⟨0,[7,6,.any,11],[oS 14],.put [] 1 0 12 (fB 27 (.tmp 18) (.tmp 19))⟩,bQ [6,.lit (.ci .i64 1)] [oN 15] (au .add)]
def Px:List Step:=[bQ [6,3] oF (au .lss)]
def Py:List Step:=[bQ [0] [oN 1] (aK 24),.base ⟨0,[1,1],[oS 2],.loose [] 1 0 (fK 24)⟩,bQ [0] [oN 3] (aK 24),.loop Ch [(Ci,[.frm 15,.frm 14,.frm 0])] Px,.base ⟨105,[4],[oS 5],.dF [1] false⟩]
def Pz:List Out:=[oS 0,⟨.one (.lit (.fn 78)),[]⟩]
theorem PA  (hn:n<=1000000) (hk:k<=500000):aj (ph (uN z n k)) prog ⟨133,[0,.lit (.fn 78)],[oS 5],false⟩:=aQ Pz [oS 5] Py func133 (by kernel_rfl) (lB (aS (F:=(If z k)) underlying24 ad rfl) (lB (kN (n:=n) (F:=(Nf (upto 0 z) k)) ad (fun i w=>ak.zero w k) rfl) (lB (aS (F:=(If z k)) underlying24 ad rfl) (cm (counted n (fun j=>ph (uN z n k ++ Pw z n k j)) (fun _=>0) (fun j p hp=>cn (show p<(uN z n k).length from hp)) ⟨fun _=>rfl,ad,bS,trivial⟩ (fun j hj=>by
   skip
   exact ⟨(Ci,[.frm 15,.frm 14,.frm 0]),rfl,⟨ad,ad,bS,trivial⟩,(lB (bH ad ad) (lB (co (i:=j) (F:=(If z k)) underlying24 ad ad rfl) (lB (cU (sz:=2) (F:=Iw (z j) k) ad (fun _ _ _ g h=>aF.kp h g) (fun _ _ h=>aF.is h) rfl) (lB (pX iI rfl rfl) (lB (fL (i:=j) (sz:=2) (n:=n) (F:=(Nf (upto j z) k)) underlying24 (fun _ _ h=>aC.arr h) ad rfl rfl) (lB (iz (i:=j) (n:=n) (F:=(fun ι w v=>ak w v ((upto j z) ι) k)) (F':=(fun ι w v=>ak w v ((upto (j+1) z) ι) k)) (G:=Nw (z j) k) (.tmp 18) (.tmp 19) ad ad ad rfl (fun _ _ h=>ak.cells h) (fun _ _ _ _ g h=>ak.kp h g) (fun _ _ _ g h=>ak.kp h g) (fun i w v hi h=>by rw [mg hi];exact h) (fun w v h=>h.eq (mh j z).symm) rfl) (lB (ct ad rfl) aD)))))))⟩) (lB (tlF ad ad) aD)
   (fun q hq w v h=>by
    simp only [Ch,List.mem_cons,List.not_mem_nil,or_false] at hq
    rcases hq with rfl
    ·exact (fun h=>h) h)) (lB (eF [1] (ig (z:=(upto n z)) (n:=n) (k:=k) (F:=(Nf (upto n z) k)) (fun _ _ h=>aC.rw h) (fun _ _ _ h=>ak.i h) (fun _ _ _ _ g h=>ak.kp h g) rfl)) aD)))))
  (aM [.fact 0 (.one (.s)),.lit (.fn 78)] ⟨Rw.Is 2 (If z k) n,(fun _ h=>by cases h),trivial⟩) aV
def uO (z y:Nat->Int) (n m k l:Nat):List WP:=[Rw 2 (If z k) n,Rw 2 (If y l) m,Nz n,Nz m,Nz (max n m),fun w v=>aC 2 27 (fun ι w v=>ak w v ((upto 0 (fun i=>upto n z i+upto m y i)) ι) (k+l+1)) (max n m) w v,gW (max n m),Nz (max n m),fun w v=>aC 2 27 (fun ι w v=>ak w v ((upto (max n m) (fun i=>upto n z i+upto m y i)) ι) (k+l+1)) (max n m) w v,fun w v=>Rw 2 (fun ι w v=>ak w v ((upto (max n m) (fun i=>upto n z i+upto m y i)) ι) (k+l+1)) (tl (upto (max n m) (fun i=>upto n z i+upto m y i)) (max n m)) w v]
def PB (z y:Nat->Int) (n m k l:Nat) (j:Nat):List WP:=[Nz j,fun w v=>aC 2 27 (fun ι w v=>ak w v ((upto j (fun i=>upto n z i+upto m y i)) ι) (k+l+1)) (max n m) w v,fun _ _=>True,Iw (upto n z j) k,Iw (upto m y j) l,Nw ((upto n z j)+(upto m y j)) (k+l+1),At 2,Ptr 2 (Nw ((upto j (fun i=>upto n z i+upto m y i)) j) (k+l+1)),fun w v=>aC 2 27 (fun ι w v=>ak w v ((upto (j+1) (fun i=>upto n z i+upto m y i)) ι) (k+l+1)) (max n m) w v,Nz (j+1)]
def Cj:bJ:=⟨[0,1,2,6,9,10,11,12,13,14,15,16],[(.slot 17,.i),(.slot 7,.s)],[(.one 0,10),(.one 1,.cD [1] 11),(.one 1,.lo 1)],[.closed (.one (.ci .i64 0)),.frm 5,.frm 0],10,[(11,8)]⟩
def Ck:List Step:=[bQ [10,7] oT (au .lss),.base ⟨143,[0,10],[oI 13],false⟩,.base ⟨143,[1,10],[oI 14],false⟩,.base ⟨144,[13,14],[oI 15],false⟩,.base ⟨0,[11,10],[oP 17],.joint [1] 16 (aN 24)⟩,.base ⟨0,[11,10,.any,15],[oS 18],.put [] 1 0 16 (fB 27 (.tmp 20) (.tmp 21))⟩,bQ [10,.lit (.ci .i64 1)] [oN 19] (au .add)]
def PC:List Step:=[bQ [10,7] oF (au .lss)]
def PD:List Step:=[bQ [0] [oN 2] (aK 24),bQ [1] [oN 3] (aK 24),bQ [2,3] [oN 4] (kL .max),.base ⟨0,[4,4],[oS 5],.loose [] 1 0 (fK 24)⟩,.freed (.one (.s 7 0)) 5 6,bQ [6] [oN 7] (aK 24),.loop Cj [(Ck,[.frm 19,.frm 18,.frm 0])] PC,.base ⟨105,[8],[oS 9],.dF [1] false⟩]
def PE:List Out:=[oS 0,oS 1,⟨.one (.lit (.fn 144)),[]⟩]
theorem PF  (hn:n<=1000000) (hm:m<=1000000) (hk:k<=200000) (hl:l<=200000):aj (ph (uO z y n m k l)) prog ⟨101,[0,1,.lit (.fn 144)],[oS 9],false⟩:=aQ PE [oS 9] PD func101 (by kernel_rfl) (lB (aS (F:=(If z k)) underlying24 ad rfl) (lB (aS (F:=(If y l)) underlying24 ad rfl) (lB (pV ad ad (by split <;> omega) rfl) (lB (kN (n:=(max n m)) (F:=(fun ι w v=>ak w v ((upto 0 (fun i=>upto n z i+upto m y i)) ι) (k+l+1))) ad (fun i w=>ak.zero w (k+l+1)) rfl) (lR (nt (e:=27) (sz:=2) (n:=(max n m)) (F:=(fun ι w v=>ak w v ((upto 0 (fun i=>upto n z i+upto m y i)) ι) (k+l+1))) ad rfl) (lB (lS (n:=(max n m)) underlying24 ad rfl) (cm (counted (max n m) (fun j=>ph (uO z y n m k l ++ PB z y n m k l j)) (fun _=>0) (fun j p hp=>cn (show p<(uO z y n m k l).length from hp)) ⟨fun _=>rfl,ad,bS,trivial⟩ (fun j hj=>by
   skip
   exact ⟨(Ck,[.frm 19,.frm 18,.frm 0]),rfl,⟨ad,ad,bS,trivial⟩,(lB (bH ad ad) (lB (qU (z:=z) (n:=n) (i:=j) (Rw.To 2 (If z k) n (fun _ _ _ _ h=>h)) ad rfl (fun h=>(gi (h:=h)).symm) (fun h=>if_neg (by omega))) (lB (qU (z:=y) (n:=m) (i:=j) (Rw.To 2 (If y l) m (fun _ _ _ _ h=>h)) ad rfl (fun h=>(gi (h:=h)).symm) (fun h=>if_neg (by omega))) (lB (Cm iI iI rfl rfl) (lB (fL (i:=j) (sz:=2) (n:=(max n m)) (F:=(fun ι w v=>ak w v ((upto j (fun i=>upto n z i+upto m y i)) ι) (k+l+1))) underlying24 (fun _ _ h=>aC.arr h) ad rfl rfl) (lB (iz (i:=j) (n:=(max n m)) (F:=(fun ι w v=>ak w v ((upto j (fun i=>upto n z i+upto m y i)) ι) (k+l+1))) (F':=(fun ι w v=>ak w v ((upto (j+1) (fun i=>upto n z i+upto m y i)) ι) (k+l+1))) (G:=Nw ((upto n z j)+(upto m y j)) (k+l+1)) (.tmp 20) (.tmp 21) ad ad ad rfl (fun _ _ h=>ak.cells h) (fun _ _ _ _ g h=>ak.kp h g) (fun _ _ _ g h=>ak.kp h g) (fun i w v hi h=>by rw [mg hi];exact h) (fun w v h=>h.eq (mh j (fun i=>upto n z i+upto m y i)).symm) rfl) (lB (ct ad rfl) aD)))))))⟩) (lB (tlF ad ad) aD)
   (fun q hq w v h=>by
    simp only [Cj,List.mem_cons,List.not_mem_nil,or_false] at hq
    rcases hq with rfl
    ·exact (fun h=>h) h)) (lB (eF [1] (ig (z:=(upto (max n m) (fun i=>upto n z i+upto m y i))) (n:=(max n m)) (k:=(k+l+1)) (F:=(fun ι w v=>ak w v ((upto (max n m) (fun i=>upto n z i+upto m y i)) ι) (k+l+1))) (fun _ _ h=>aC.rw h) (fun _ _ _ h=>ak.i h) (fun _ _ _ _ g h=>ak.kp h g) rfl)) aD))))))))
  (aM [.fact 0 (.one (.s)),.fact 1 (.one (.s)),.lit (.fn 144)] ⟨Rw.Is 2 (If z k) n,Rw.Is 2 (If y l) m,(fun _ h=>by cases h),trivial⟩) aV
def uP (z y:Nat->Int) (n m k l:Nat):List WP:=[Rw 2 (If z k) n,Rw 2 (If y l) m,Nz n,Nz m,Nz (max n m),fun w v=>aC 2 27 (fun ι w v=>ak w v ((upto 0 (fun i=>upto n z i-upto m y i)) ι) (k+l+1)) (max n m) w v,gW (max n m),Nz (max n m),fun w v=>aC 2 27 (fun ι w v=>ak w v ((upto (max n m) (fun i=>upto n z i-upto m y i)) ι) (k+l+1)) (max n m) w v,fun w v=>Rw 2 (fun ι w v=>ak w v ((upto (max n m) (fun i=>upto n z i-upto m y i)) ι) (k+l+1)) (tl (upto (max n m) (fun i=>upto n z i-upto m y i)) (max n m)) w v]
def PG (z y:Nat->Int) (n m k l:Nat) (j:Nat):List WP:=[Nz j,fun w v=>aC 2 27 (fun ι w v=>ak w v ((upto j (fun i=>upto n z i-upto m y i)) ι) (k+l+1)) (max n m) w v,fun _ _=>True,Iw (upto n z j) k,Iw (upto m y j) l,Nw ((upto n z j)-(upto m y j)) (k+l+1),At 2,Ptr 2 (Nw ((upto j (fun i=>upto n z i-upto m y i)) j) (k+l+1)),fun w v=>aC 2 27 (fun ι w v=>ak w v ((upto (j+1) (fun i=>upto n z i-upto m y i)) ι) (k+l+1)) (max n m) w v,Nz (j+1)]
def Cn:bJ:=⟨[0,1,2,6,9,10,11,12,13,14,15,16],[(.slot 17,.i),(.slot 7,.s)],[(.one 0,10),(.one 1,.cD [1] 11),(.one 1,.lo 1)],[.closed (.one (.ci .i64 0)),.frm 5,.frm 0],10,[(11,8)]⟩
def Co:List Step:=[bQ [10,7] oT (au .lss),.base ⟨143,[0,10],[oI 13],false⟩,.base ⟨143,[1,10],[oI 14],false⟩,.base ⟨102,[13,14],[oI 15],false⟩,.base ⟨0,[11,10],[oP 17],.joint [1] 16 (aN 24)⟩,.base ⟨0,[11,10,.any,15],[oS 18],.put [] 1 0 16 (fB 27 (.tmp 20) (.tmp 21))⟩,bQ [10,.lit (.ci .i64 1)] [oN 19] (au .add)]
def PI:List Step:=[bQ [10,7] oF (au .lss)]
def PJ:List Step:=[bQ [0] [oN 2] (aK 24),bQ [1] [oN 3] (aK 24),bQ [2,3] [oN 4] (kL .max),.base ⟨0,[4,4],[oS 5],.loose [] 1 0 (fK 24)⟩,.freed (.one (.s 7 0)) 5 6,bQ [6] [oN 7] (aK 24),.loop Cn [(Co,[.frm 19,.frm 18,.frm 0])] PI,.base ⟨105,[8],[oS 9],.dF [1] false⟩]
def PK:List Out:=[oS 0,oS 1,⟨.one (.lit (.fn 102)),[]⟩]
theorem PM  (hn:n<=1000000) (hm:m<=1000000) (hk:k<=200000) (hl:l<=200000):aj (ph (uP z y n m k l)) prog ⟨101,[0,1,.lit (.fn 102)],[oS 9],false⟩:=aQ PK [oS 9] PJ func101 (by kernel_rfl) (lB (aS (F:=(If z k)) underlying24 ad rfl) (lB (aS (F:=(If y l)) underlying24 ad rfl) (lB (pV ad ad (by split <;> omega) rfl) (lB (kN (n:=(max n m)) (F:=(fun ι w v=>ak w v ((upto 0 (fun i=>upto n z i-upto m y i)) ι) (k+l+1))) ad (fun i w=>ak.zero w (k+l+1)) rfl) (lR (nt (e:=27) (sz:=2) (n:=(max n m)) (F:=(fun ι w v=>ak w v ((upto 0 (fun i=>upto n z i-upto m y i)) ι) (k+l+1))) ad rfl) (lB (lS (n:=(max n m)) underlying24 ad rfl) (cm (counted (max n m) (fun j=>ph (uP z y n m k l ++ PG z y n m k l j)) (fun _=>0) (fun j p hp=>cn (show p<(uP z y n m k l).length from hp)) ⟨fun _=>rfl,ad,bS,trivial⟩ (fun j hj=>by
   skip
   exact ⟨(Co,[.frm 19,.frm 18,.frm 0]),rfl,⟨ad,ad,bS,trivial⟩,(lB (bH ad ad) (lB (qU (z:=z) (n:=n) (i:=j) (Rw.To 2 (If z k) n (fun _ _ _ _ h=>h)) ad rfl (fun h=>(gi (h:=h)).symm) (fun h=>if_neg (by omega))) (lB (qU (z:=y) (n:=m) (i:=j) (Rw.To 2 (If y l) m (fun _ _ _ _ h=>h)) ad rfl (fun h=>(gi (h:=h)).symm) (fun h=>if_neg (by omega))) (lB (Pu iI iI rfl rfl) (lB (fL (i:=j) (sz:=2) (n:=(max n m)) (F:=(fun ι w v=>ak w v ((upto j (fun i=>upto n z i-upto m y i)) ι) (k+l+1))) underlying24 (fun _ _ h=>aC.arr h) ad rfl rfl) (lB (iz (i:=j) (n:=(max n m)) (F:=(fun ι w v=>ak w v ((upto j (fun i=>upto n z i-upto m y i)) ι) (k+l+1))) (F':=(fun ι w v=>ak w v ((upto (j+1) (fun i=>upto n z i-upto m y i)) ι) (k+l+1))) (G:=Nw ((upto n z j)-(upto m y j)) (k+l+1)) (.tmp 20) (.tmp 21) ad ad ad rfl (fun _ _ h=>ak.cells h) (fun _ _ _ _ g h=>ak.kp h g) (fun _ _ _ g h=>ak.kp h g) (fun i w v hi h=>by rw [mg hi];exact h) (fun w v h=>h.eq (mh j (fun i=>upto n z i-upto m y i)).symm) rfl) (lB (ct ad rfl) aD)))))))⟩) (lB (tlF ad ad) aD)
   (fun q hq w v h=>by
    simp only [Cn,List.mem_cons,List.not_mem_nil,or_false] at hq
    rcases hq with rfl
    ·exact (fun h=>h) h)) (lB (eF [1] (ig (z:=(upto (max n m) (fun i=>upto n z i-upto m y i))) (n:=(max n m)) (k:=(k+l+1)) (F:=(fun ι w v=>ak w v ((upto (max n m) (fun i=>upto n z i-upto m y i)) ι) (k+l+1))) (fun _ _ h=>aC.rw h) (fun _ _ _ h=>ak.i h) (fun _ _ _ _ g h=>ak.kp h g) rfl)) aD))))))))
  (aM [.fact 0 (.one (.s)),.fact 1 (.one (.s)),.lit (.fn 102)] ⟨Rw.Is 2 (If z k) n,Rw.Is 2 (If y l) m,(fun _ h=>by cases h),trivial⟩) aV
section
variable {x:Nat}{L:List Int}
theorem PN (hp:∀w v,Φ p w v->Rw 2 (If z k) n w v) (hx:Φ x=Rw 2 (Nf (ae L) k) L.length) (hL:an (mk n z)=L) (hn:n<=1000000:=by omega) (hk:k<=500000:=by omega):aj Φ prog ⟨133,[.fact p,.lit (.fn 78)],[oS x],false⟩:=
 aT (PA hn hk) ⟨hp,rfl,trivial⟩ ⟨⟨rfl,⟨rfl,rfl,fun _ _ h=>hx▸hL▸ol h⟩,trivial⟩,trivial⟩
theorem PO (hp:∀w v,Φ p w v->Rw 2 (If z k) n w v) (hq:∀w v,Φ q w v->Rw 2 (If y l) m w v) (hx:Φ x=Rw 2 (Nf (ae L) (k+l+1)) L.length) (hL:an (mk (max n m) (fun i=>upto n z i+upto m y i))=L) (hn:n<=1000000:=by omega) (hm:m<=1000000:=by omega) (hk:k<=200000:=by omega) (hl:l<=200000:=by omega):aj Φ prog ⟨101,[.fact p,.fact q,.lit (.fn 144)],[oS x],false⟩:=
 aT (PF hn hm hk hl) ⟨hp,hq,rfl,trivial⟩ ⟨⟨rfl,⟨rfl,rfl,fun _ _ h=>hx▸hL▸ol h⟩,trivial⟩,trivial⟩
theorem PP (hp:∀w v,Φ p w v->Rw 2 (If z k) n w v) (hq:∀w v,Φ q w v->Rw 2 (If y l) m w v) (hx:Φ x=Rw 2 (Nf (ae L) (k+l+1)) L.length) (hL:an (mk (max n m) (fun i=>upto n z i-upto m y i))=L) (hn:n<=1000000:=by omega) (hm:m<=1000000:=by omega) (hk:k<=200000:=by omega) (hl:l<=200000:=by omega):aj Φ prog ⟨101,[.fact p,.fact q,.lit (.fn 102)],[oS x],false⟩:=
 aT (PM hn hm hk hl) ⟨hp,hq,rfl,trivial⟩ ⟨⟨rfl,⟨rfl,rfl,fun _ _ h=>hx▸hL▸ol h⟩,trivial⟩,trivial⟩
end
def PQ (z:Nat->Int) (n k:Nat):List WP:=[Rw 2 (If z k) n,Rw 2 (Nf (ae (an (mk n z))) k) ((an (mk n z)).length)]
def PR:List Step:=[.base ⟨133,[0,.lit (.fn 78)],[oS 1],false⟩]
def PS:List Out:=[oS 0]
theorem PT  (hn:n<=1000000) (hk:k<=500000):aj (ph (PQ z n k)) prog ⟨103,[0],[oS 1],false⟩:=aQ PS [oS 1] PR func103 (by kernel_rfl) (lB (PN (Rw.To 2 (If z k) n (fun _ _ _ _ h=>h)) rfl rfl) aD)
  (aM [.fact 0 (.one (.s))] ⟨Rw.Is 2 (If z k) n,trivial⟩) aV
def PU (z y:Nat->Int) (n m k l:Nat):List WP:=[Rw 2 (If z k) n,Rw 2 (If y l) m,fun w v=>Rw 2 (fun ι w v=>ak w v ((ae (an (mk (max n m) (fun i=>upto n z i+upto m y i)))) ι) (k+l+1)) ((an (mk (max n m) (fun i=>upto n z i+upto m y i))).length) w v]
def PV:List Step:=[.base ⟨101,[0,1,.lit (.fn 144)],[oS 2],false⟩]
def PW:List Out:=[oS 0,oS 1]
theorem PX  (hn:n<=1000000) (hm:m<=1000000) (hk:k<=200000) (hl:l<=200000):aj (ph (PU z y n m k l)) prog ⟨141,[0,1],[oS 2],false⟩:=aQ PW [oS 2] PV func141 (by kernel_rfl) (lB (PO (Rw.To 2 (If z k) n (fun _ _ _ _ h=>h)) (Rw.To 2 (If y l) m (fun _ _ _ _ h=>h)) rfl rfl) aD)
  (aM [.fact 0 (.one (.s)),.fact 1 (.one (.s))] ⟨Rw.Is 2 (If z k) n,Rw.Is 2 (If y l) m,trivial⟩) aV
def PY (z y:Nat->Int) (n m k l:Nat):List WP:=[Rw 2 (If z k) n,Rw 2 (If y l) m,fun w v=>Rw 2 (fun ι w v=>ak w v ((ae (an (mk (max n m) (fun i=>upto n z i-upto m y i)))) ι) (k+l+1)) ((an (mk (max n m) (fun i=>upto n z i-upto m y i))).length) w v]
def PZ:List Step:=[.base ⟨101,[0,1,.lit (.fn 102)],[oS 2],false⟩]
def Qa:List Out:=[oS 0,oS 1]
theorem Qb  (hn:n<=1000000) (hm:m<=1000000) (hk:k<=200000) (hl:l<=200000):aj (ph (PY z y n m k l)) prog ⟨62,[0,1],[oS 2],false⟩:=aQ Qa [oS 2] PZ func62 (by kernel_rfl) (lB (PP (Rw.To 2 (If z k) n (fun _ _ _ _ h=>h)) (Rw.To 2 (If y l) m (fun _ _ _ _ h=>h)) rfl rfl) aD)
  (aM [.fact 0 (.one (.s)),.fact 1 (.one (.s))] ⟨Rw.Is 2 (If z k) n,Rw.Is 2 (If y l) m,trivial⟩) aV
section
theorem Qc:dI z y l j 0 p=dq z y l j p:=by
 unfold dI
 rw [if_neg (by omega)];omega
theorem Qd (h:p≠j+i):dI z y l j (i+1) p=dI z y l j i p:=by
 unfold dI
 split <;> split <;> first | rfl | omega
theorem Qe:dI z y l j i (j+i)+z j*y i=dI z y l j (i+1) (j+i):=by
 unfold dI
 rw [if_neg (by omega),if_pos (by omega),show j+i-j=i by omega];omega
end
def om (z y:Nat->Int) (n m k l K:Nat):List WP:=[Rw 2 (If z k) n,Rw 2 (If y l) m,Rw 2 (If z k) (tl z n),Rw 2 (If y l) (tl y m),Nz (tl z n),Nz (tl y m),Nz (tl z n),Nz (tl y m),Nz ((tl z n)+(tl y m)),Nz ((tl z n)+(tl y m)-1),aC 2 27 (Nf (dq z y (tl y m) 0) K) ((tl z n)+(tl y m)-1),Nz (tl z n),aC 2 27 (Nf (dq z y (tl y m) (tl z n)) K) ((tl z n)+(tl y m)-1)]
def Qf (z y:Nat->Int) (n m k l K:Nat) (j i:Nat):List WP:=[Nz i,aC 2 27 (Nf (dI z y (tl y m) j i) K) ((tl z n)+(tl y m)-1),fun _ _=>True,Ptr 2 (Iw (y i) l),Iw (y i) l,Nz (j+i),Nz (j+i),At 2,Ptr 2 (Nw ((dI z y (tl y m) j i) (j+i)) K),Nw ((dI z y (tl y m) j i) (j+i)) K,Nw ((z j)*(y i)) (k+l),Nw (((dI z y (tl y m) j i) (j+i))+((z j)*(y i))) (K+(k+l)+1),At 2,Ptr 2 (Nw ((dI z y (tl y m) j i) (j+i)) K),fun w v=>aC 2 27 (fun ι w v=>ak w v ((dI z y (tl y m) j (i+1)) ι) K) ((tl z n)+(tl y m)-1) w v,Nz (i+1)]
def Cp:bJ:=⟨[0,1,4,6,7,10,11,12,13,14,15,16,17,18,19,20,21,22,23,24,25,26,27,28,29,30,31,32,33,34,35,36,37],[(.slot 38,.i),(.slot 5,.s)],[(.one 0,21),(.one 1,.cD [1] 22),(.one 1,.lo 1)],[.closed (.one (.ci .i64 0)),.frm 14,.frm 0],21,[(22,19)]⟩
def Cq:List Step:=[bQ [21,18] oT (au .lss),bQ [3,21] [oP 24] (aN 24),bQ [24] [oI 25] (aO 27),bQ [13,21] [oN 26] (au .add),bQ [13,21] [oN 27] (au .add),.base ⟨0,[22,27],[oP 29],.joint [1] 28 (aN 24)⟩,.base ⟨0,[29],[oI 30],.kX [1] (aO 27)⟩,.base ⟨135,[17,25],[oI 31],false⟩,.base ⟨144,[30,31],[oI 32],.dF [1] false⟩,.base ⟨0,[22,26],[oP 34],.joint [1] 33 (aN 24)⟩,.base ⟨0,[22,26,.any,32],[oS 35],.put [] 1 0 33 (fB 27 (.tmp 43) (.tmp 46))⟩,bQ [21,.lit (.ci .i64 1)] [oN 36] (au .add)]
def Qg:List Step:=[bQ [21,18] oF (au .lss)]
def uQ (z y:Nat->Int) (n m k K:Nat) (j:Nat):List WP:=[Nz j,aC 2 27 (Nf (dq z y (tl y m) j) K) ((tl z n)+(tl y m)-1),fun _ _=>True,Ptr 2 (Iw (z j) k),Iw (z j) k,Nz (tl y m),aC 2 27 (Nf (dI z y (tl y m) j (tl y m)) K) ((tl z n)+(tl y m)-1),Nz (j+1)]
def Cr:bJ:=⟨[0,1,4,10,11,12,13,14,15,16,17,18,19,20,21,22,23,24,25,26,27,28,29,30],[(.slot 31,.i),(.slot 5,.s)],[(.one 0,13),(.one 1,.cD [1] 14),(.one 1,.lo 1)],[.closed (.one (.ci .i64 0)),.frm 10,.frm 0],13,[(14,12)]⟩
def Cs:List Step:=[bQ [13,11] oT (au .lss),bQ [2,13] [oP 16] (aN 24),bQ [16] [oI 17] (aO 27),bQ [3] [oN 18] (aK 24),.loop Cp [(Cq,[.frm 36,.frm 35,.frm 0])] Qg,bQ [13,.lit (.ci .i64 1)] [oN 20] (au .add)]
def Qh:List Step:=[bQ [13,11] oF (au .lss)]
def Qi:List Step:=[.base ⟨105,[0],[oS 2],false⟩,.base ⟨105,[1],[oS 3],false⟩,bQ [2] [oN 4] (aK 24),bQ [4,.lit (.ci .i64 0)] oF (au .eql),bQ [3] [oN 5] (aK 24),bQ [5,.lit (.ci .i64 0)] oF (au .eql),bQ [2] [oN 6] (aK 24),bQ [3] [oN 7] (aK 24),bQ [6,7] [oN 8] (au .add),bQ [8,.lit (.ci .i64 1)] [oN 9] (au .sub),.base ⟨0,[9,9],[oS 10],.loose [] 1 0 (fK 24)⟩,bQ [2] [oN 11] (aK 24),.loop Cr [(Cs,[.frm 20,.frm 19,.frm 0])] Qh]
def Qj:List Out:=[oS 0,oS 1]
theorem Qk  (hn:n<=400000) (hm:m<=400000) (hk:k<=100000) (hl:l<=100000) (hK:K<=300000) (h1:0<(tl z n)) (h2:0<(tl y m)) (hB:∀j i p,j<(tl z n)->i<=(tl y m)->Bd (dI z y (tl y m) j i p).natAbs K):aj (ph (om z y n m k l K)) prog ⟨142,[0,1],[oS 12],false⟩:=by
 have hz:=bi z n;have hy:=bi y m
 exact aQ Qj [oS 12] Qi func142 (by kernel_rfl) (lB (ig (z:=z) (n:=n) (k:=k) (F:=(If z k)) ad aV (fun _ _ _ _ g h=>aF.kp h g) rfl) (lB (ig (z:=y) (n:=m) (k:=l) (F:=(If y l)) ad aV (fun _ _ _ _ g h=>aF.kp h g) rfl) (lB (aS (F:=(If z k)) underlying24 ad rfl) (lB (mw ad) (lB (aS (F:=(If y l)) underlying24 ad rfl) (lB (mw ad) (lB (aS (F:=(If z k)) underlying24 ad rfl) (lB (aS (F:=(If y l)) underlying24 ad rfl) (lB (jg ad ad rfl) (lB (eg ad rfl) (lB (kN (n:=((tl z n)+(tl y m)-1)) (F:=(Nf (dq z y (tl y m) 0) K)) ad (fun i w=>ak.zero w K) rfl) (lB (aS (F:=(If z k)) underlying24 ad rfl) (cm (counted (tl z n) (fun j=>ph (om z y n m k l K ++ uQ z y n m k K j)) (fun _=>0) (fun j p hp=>cn (show p<(om z y n m k l K).length from hp)) ⟨fun _=>rfl,ad,bS,trivial⟩ (fun j hj=>by
   skip
   exact ⟨(Cs,[.frm 20,.frm 19,.frm 0]),rfl,⟨ad,ad,bS,trivial⟩,(lB (bH ad ad) (lB (co (i:=j) (F:=(If z k)) underlying24 ad ad rfl) (lB (cU (sz:=2) (F:=Iw (z j) k) ad (fun _ _ _ g h=>aF.kp h g) (fun _ _ h=>aF.is h) rfl) (lB (aS (F:=(If y l)) underlying24 ad rfl) (cm (counted (tl y m) (fun i=>ph ((om z y n m k l K ++ uQ z y n m k K j) ++ Qf z y n m k l K j i)) (fun _=>0) (fun i p hp=>cn (show p<(om z y n m k l K ++ uQ z y n m k K j).length from hp)) ⟨fun _=>rfl,fun _ _ h=>aC.to (sz:=2) (e:=27) (n:=((tl z n)+(tl y m)-1)) (F:=(fun ι w v=>ak w v ((dq z y (tl y m) j) ι) K)) (G:=(fun ι w v=>ak w v ((dI z y (tl y m) j 0) ι) K)) h fun a w v ha h=>by rw [Qc];exact h,bS,trivial⟩ (fun i hi=>by
   skip
   exact ⟨(Cq,[.frm 36,.frm 35,.frm 0]),rfl,⟨ad,ad,bS,trivial⟩,(lB (bH ad ad) (lB (co (i:=i) (F:=(If y l)) underlying24 ad ad rfl) (lB (cU (sz:=2) (F:=Iw (y i) l) ad (fun _ _ _ g h=>aF.kp h g) (fun _ _ h=>aF.is h) rfl) (lB (jg ad ad rfl) (lB (jg ad ad rfl) (lB (fL (i:=(j+i)) (sz:=2) (n:=((tl z n)+(tl y m)-1)) (F:=(Nf (dI z y (tl y m) j i) K)) underlying24 (fun _ _ h=>aC.arr h) ad rfl rfl) (lB (cU (sz:=2) (F:=Nw ((dI z y (tl y m) j i) (j+i)) K) ad (fun _ _ _ g h=>ak.kp h g) (fun _ _ h=>ak.is h) rfl) (lB (qV iI iI rfl rfl) (lB (eF [1] (Cm nI nI rfl rfl)) (lB (fL (i:=(j+i)) (sz:=2) (n:=((tl z n)+(tl y m)-1)) (F:=(Nf (dI z y (tl y m) j i) K)) underlying24 (fun _ _ h=>aC.arr h) ad rfl rfl) (lB (iz (i:=(j+i)) (n:=((tl z n)+(tl y m)-1)) (F:=(fun ι w v=>ak w v ((dI z y (tl y m) j i) ι) K)) (F':=(fun ι w v=>ak w v ((dI z y (tl y m) j (i+1)) ι) K)) (G:=Nw (((dI z y (tl y m) j i) (j+i))+((z j)*(y i))) (K+(k+l)+1)) (.tmp 43) (.tmp 46) ad ad ad rfl (fun _ _ h=>ak.cells h) (fun _ _ _ _ g h=>ak.kp h g) (fun _ _ _ g h=>ak.kp h g) (fun a w v ha h=>by rw [Qd ha];exact h) (fun w v h=>ak.re (h.eq Qe) (hB j (i+1) (j+i) (by omega) (by omega))) rfl) (lB (ct ad rfl) aD))))))))))))⟩) (lB (tlF ad ad) aD)
   (fun q hq w v h=>by
    simp only [Cp,List.mem_cons,List.not_mem_nil,or_false] at hq
    rcases hq with rfl
    ·exact (fun h=>h) h)) (lB (ct ad rfl) aD))))))⟩) (lB (tlF ad ad) aD)
   (fun q hq w v h=>by
    simp only [Cr,List.mem_cons,List.not_mem_nil,or_false] at hq
    rcases hq with rfl
    ·exact (fun h=>h) h)) aD)))))))))))))
  (aM [.fact 0 (.one (.s)),.fact 1 (.one (.s))] ⟨Rw.Is 2 (If z k) n,Rw.Is 2 (If y l) m,trivial⟩) aV
def Ql (z y:Nat->Int) (n m k l:Nat):List WP:=[Rw 2 (If z k) n,Rw 2 (If y l) m,Rw 2 (If z k) (tl z n),Rw 2 (If y l) (tl y m),Nz (tl z n)]
def Qm:List Step:=[.base ⟨105,[0],[oS 2],false⟩,.base ⟨105,[1],[oS 3],false⟩,bQ [2] [oN 4] (aK 24),bQ [4,.lit (.ci .i64 0)] oT (au .eql)]
def Qn:List Out:=[oS 0,oS 1]
theorem Qo  (hm:m<=400000) (hk:k<=100000) (hl:l<=100000) (h1:(tl z n)=0) (hn:n<=400000:=by omega):aj (ph (Ql z y n m k l)) prog ⟨142,[0,1],[⟨.one (.lit (.nl)),[]⟩],false⟩:=by
 have hz:=bi z n;have hy:=bi y m
 exact aQ Qn [⟨.one (.lit (.nl)),[]⟩] Qm func142 (by kernel_rfl) (lB (ig (z:=z) (n:=n) (k:=k) (F:=(If z k)) ad aV (fun _ _ _ _ g h=>aF.kp h g) rfl) (lB (ig (z:=y) (n:=m) (k:=l) (F:=(If y l)) ad aV (fun _ _ _ _ g h=>aF.kp h g) rfl) (lB (aS (F:=(If z k)) underlying24 ad rfl) (lB (qT ad) aD))))
  (aM [.fact 0 (.one (.s)),.fact 1 (.one (.s))] ⟨Rw.Is 2 (If z k) n,Rw.Is 2 (If y l) m,trivial⟩) aV
def Qp (z y:Nat->Int) (n m k l:Nat):List WP:=[Rw 2 (If z k) n,Rw 2 (If y l) m,Rw 2 (If z k) (tl z n),Rw 2 (If y l) (tl y m),Nz (tl z n),Nz (tl y m)]
def Qq:List Step:=[.base ⟨105,[0],[oS 2],false⟩,.base ⟨105,[1],[oS 3],false⟩,bQ [2] [oN 4] (aK 24),bQ [4,.lit (.ci .i64 0)] oF (au .eql),bQ [3] [oN 5] (aK 24),bQ [5,.lit (.ci .i64 0)] oT (au .eql)]
def Qr:List Out:=[oS 0,oS 1]
theorem Qs  (hm:m<=400000) (hk:k<=100000) (hl:l<=100000) (h1:0<(tl z n)) (h2:(tl y m)=0) (hn:n<=400000:=by omega):aj (ph (Qp z y n m k l)) prog ⟨142,[0,1],[⟨.one (.lit (.nl)),[]⟩],false⟩:=by
 have hz:=bi z n;have hy:=bi y m
 exact aQ Qr [⟨.one (.lit (.nl)),[]⟩] Qq func142 (by kernel_rfl) (lB (ig (z:=z) (n:=n) (k:=k) (F:=(If z k)) ad aV (fun _ _ _ _ g h=>aF.kp h g) rfl) (lB (ig (z:=y) (n:=m) (k:=l) (F:=(If y l)) ad aV (fun _ _ _ _ g h=>aF.kp h g) rfl) (lB (aS (F:=(If z k)) underlying24 ad rfl) (lB (mw ad) (lB (aS (F:=(If y l)) underlying24 ad rfl) (lB (qT ad) aD))))))
  (aM [.fact 0 (.one (.s)),.fact 1 (.one (.s))] ⟨Rw.Is 2 (If z k) n,Rw.Is 2 (If y l) m,trivial⟩) aV
def conv (f g:Nat->Int):Nat->Int
 | 0=>f 0*g 0
 | p+1=>f 0*g (p+1)+conv (fun x=>f (x+1)) g p
theorem Ct:∀(p:Nat) (f g:Nat->Int),conv f g (p+1)=conv f (fun x=>g (x+1)) p+f (p+1)*g 0
 | 0,f,g=>rfl
 | p+1,f,g=>by
  rw [conv,Ct p (fun x=>f (x+1)) g]
  simp only [conv]
  omega
theorem Cu:∀(p:Nat) (f g:Nat->Int),conv f g p=conv g f p
 | 0,f,g=>Int.mul_comm _ _
 | p+1,f,g=>by
  rw [conv,Ct p g f,Cu p (fun x=>f (x+1)) g,Int.mul_comm (f 0)]
  omega
theorem Qt (L:List Int) (i:Nat):upto L.length (ae L) i=ae L i:=by
 unfold upto
 split
 ·rfl
 ·exact (eT).symm
theorem jF  (h:n<=i):upto n f i=0:=if_neg (by omega)
theorem Bd.tr {A B:Nat} (h:Bd A i) (k:Bd B i):Bd (A+B) (i+1):=by
 unfold Bd at *
 rw [Nat.pow_succ]
 generalize 4294967296 ^ i=M at *
 omega
def sumTo (f:Nat->Int):Nat->Int
 | 0=>0
 | n+1=>sumTo f n+f n
theorem sumTo_congr {f g:Nat->Int}:∀{n:Nat},(∀i,i<n->f i=g i)->sumTo f n=sumTo g n
 | 0,_=>rfl
 | n+1,h=>by simp only [sumTo];rw [sumTo_congr fun i hi=>h i (by omega),h n (by omega)]
theorem qW {f:Nat->Int}{n:Nat}:∀{k:Nat},(∀i,n<=i->i<n+k->f i=0)->sumTo f (n+k)=sumTo f n
 | 0,_=>rfl
 | k+1,h=>by
  rw [show n+(k+1)=(n+k)+1 by omega,sumTo,qW fun i h1 h2=>h i h1 (by omega),h (n+k) (by omega) (by omega)]
  omega
theorem Cv (f:Nat->Int):∀n,sumTo f (n+1)=f 0+sumTo (fun i=>f (i+1)) n
 | 0=>by simp [sumTo]
 | n+1=>by
  rw [sumTo,Cv f n]
  simp only [sumTo]
  omega
theorem uR:∀(p:Nat) (f g:Nat->Int),conv f g p=sumTo (fun x=>f x*g (p-x)) (p+1)
 | 0,f,g=>by simp [conv,sumTo]
 | p+1,f,g=>by
  rw [conv,uR p,Cv (fun x=>f x*g (p+1-x)) (p+1)]
  refine congrArg (f 0*g (p+1) + ·) (sumTo_congr fun i _=>?_)
  show f (i+1)*g (p-i)=f (i+1)*g (p+1-(i+1))
  rw [Nat.add_sub_add_right]
theorem Cw (z y:Nat->Int) (l p:Nat):∀j,dq z y l j p=sumTo (fun x=>if x<=p∧p<x+l then z x*y (p-x) else 0) j
 | 0=>rfl
 | j+1=>by rw [dq,Cw z y l p j];rfl
theorem kY  (h:tl z n<=i:=by omega):upto n z i=0:=by
 unfold upto
 split
 ·rename_i hi
  exact iG z n i h hi
 ·rfl
theorem ye (z y:Nat->Int) (n m p:Nat):dq z y (tl y m) (tl z n) p=conv (upto n z) (upto m y) p:=by
 rw [Cw,uR]
 have hz:=bi z n
 have hy:=bi y m
 have e1:sumTo (fun x=>if x<=p∧p<x+tl y m then z x*y (p-x) else 0) (tl z n)=sumTo (fun x=>if x<=p then upto n z x*upto m y (p-x) else 0) (tl z n):=sumTo_congr fun x hx=>by
  by_cases h1:x<=p
  ·rw [if_pos h1,gi]
   by_cases h2:p<x+tl y m
   ·rw [if_pos ⟨h1,h2⟩,gi]
   ·rw [if_neg (fun h=>h2 h.2),kY,Int.mul_zero]
  ·rw [if_neg (fun h=>h1 h.1),if_neg h1]
 have e2:sumTo (fun x=>upto n z x*upto m y (p-x)) (p+1)=sumTo (fun x=>if x<=p then upto n z x*upto m y (p-x) else 0) (p+1):=sumTo_congr fun x hx=>(if_pos (by omega)).symm
 rw [e1,e2]
 rcases Nat.le_total (tl z n) (p+1) with h | h
 ·have:=qW (f:=fun x=>if x<=p then upto n z x*upto m y (p-x) else 0) (n:=tl z n) (k:=p+1-tl z n) fun i h1 _=>by
   rw [kY (h:=h1),Int.zero_mul]
   split <;> rfl
  rw [show tl z n+(p+1-tl z n)=p+1 by omega] at this
  exact this.symm
 ·have:=qW (f:=fun x=>if x<=p then upto n z x*upto m y (p-x) else 0) (n:=p+1) (k:=tl z n-(p+1)) fun i h1 _=>if_neg (by omega)
  rw [show p+1+(tl z n-(p+1))=tl z n by omega] at this
  exact this
theorem Cx {z y:Nat->Int}{l m:Nat} (hl:0<l):∀{j},j<=m->dq z y l j (m+l-1)=0
 | 0,_=>rfl
 | j+1,h=>by
  rw [dq,Cx hl (by omega),if_neg (by omega)];rfl
theorem xZ  (hl:0<l):dq z y l (m+1) (m+l-1)=z m*y (l-1):=by
 rw [dq,Cx hl (Nat.le_refl _),if_pos (by omega),show m+l-1-m=l-1 by omega,Int.zero_add]
def mulL (z:Nat->Int) (n:Nat) (y:Nat->Int) (m:Nat):List Int:=if tl z n=0∨tl y m=0 then [] else mk (tl z n+tl y m-1) (dq z y (tl y m) (tl z n))
theorem qX:∀{f g:Nat->Int},(∀i,f i=0)->∀p,conv f g p=0
 | _,_,h,0=>by simp only [conv];rw [h,Int.zero_mul]
 | _,_,h,p+1=>by
  simp only [conv]
  rw [h,Int.zero_mul,Int.zero_add,qX (fun i=>h (i+1)) p]
theorem yg {g:Nat->Int}{a b:Nat} (hf:∀i,a<=i->f i=0) (hg:∀i,b<=i->g i=0) (h:a+b<=p+1:=by omega):conv f g p=0:=by
 rw [uR,show p+1=0+(p+1) by omega,qW (n:=0) fun i _ hi=>?_]
 ·rfl
 ·rcases Nat.lt_or_ge i a with h1 | h1
  ·rw [hg _ (by omega),Int.mul_zero]
  ·rw [hf _ h1,Int.zero_mul]
theorem Cy (z:Nat->Int) (n:Nat) (y:Nat->Int) (m p:Nat):ae (mulL z n y m) p=conv (upto n z) (upto m y) p:=by
 unfold mulL
 split
 ·rename_i h
  rw [eT (h:=(by simp))]
  rcases h with h | h
  ·exact (qX (fun i=>kY) p).symm
  ·rw [Cu];exact (qX (fun i=>kY) p).symm
 ·rename_i h
  rw [cM]
  split
  ·exact ye z y n m p
  ·exact (yg (a:=tl z n) (b:=tl y m) (fun i hi=>kY (h:=hi)) (fun i hi=>kY (h:=hi))).symm
theorem zj  (h1:0<tl z n:=by omega) (h2:0<tl y m:=by omega):(mulL z n y m).length=tl z n+tl y m-1:=by
 unfold mulL
 rw [if_neg (by omega),dC]
theorem Qu (z:Nat->Int) (n:Nat) (y:Nat->Int) (m:Nat):(mulL z n y m).length<=n+m:=by
 have:=bi z n
 have:=bi y m
 unfold mulL
 split
 ·simp
 ·rw [dC];omega
theorem CA  (h1:0<tl z n:=by omega) (h2:0<tl y m:=by omega):ae (mulL z n y m) (tl z n+tl y m-2)=z (tl z n-1)*y (tl y m-1):=by
 unfold mulL
 rw [if_neg (by omega),cM,if_pos (by omega)]
 obtain ⟨a,ha⟩:∃a,tl z n=a+1:=⟨tl z n-1,by omega⟩
 have:=xZ (z:=z) (y:=y) (l:=tl y m) (m:=a) h2
 rw [ha,show a+1+tl y m-2=a+tl y m-1 by omega,this,Nat.add_sub_cancel]
theorem nG (z:Nat->Int) (n:Nat) (y:Nat->Int) (m:Nat):cG (mulL z n y m):=fun h=>by
 by_cases h0:tl z n=0∨tl y m=0
 ·unfold mulL at h
  rw [if_pos h0] at h
  simp at h
 ·rw [zj,show tl z n+tl y m-1-1=tl z n+tl y m-2 by omega,CA]
  exact Int.mul_ne_zero (gE z n (by omega)) (gE y m (by omega))
theorem uS {z y:Nat->Int}{l k k' c n:Nat} (hz:∀i,i<n->Bd (z i).natAbs k) (hy:∀i,i<l->Bd (y i).natAbs k'):∀{j},j<=n->j<=c->∀p,Bd (dq z y l j p).natAbs (k+k'+j)
 | 0,_,_,p=>Nat.pow_pos (by omega)
 | j+1,h1,h2,p=>by
  have h3:=uS (c:=c) hz hy (j:=j) (by omega) (by omega) p
  rw [dq]
  have h4:Bd (if j<=p∧p<j+l then z j*y (p-j) else 0).natAbs (k+k'+j):=by
   split
   ·rw [Int.natAbs_mul]
    exact (Bd.mul (hz j (by omega)) (hy _ (by omega))).more (by omega)
   ·exact Nat.pow_pos (by omega)
  exact (Bd.tr h3 h4).le (Int.natAbs_add_le _ _)
theorem CB {k' c:Nat} (hz:∀i,i<n->Bd (z i).natAbs k) (hy:∀i,i<l->Bd (y i).natAbs k') (h1:j<n) (h2:n<=c) (hi:i<=l) (p:Nat):Bd (dI z y l j i p).natAbs (k+k'+c+1):=by
 have h3:=uS (c:=c) hz hy (j:=j) (by omega) (by omega) p
 have h4:Bd (if j<=p∧p<j+i then z j*y (p-j) else 0).natAbs (k+k'+j):=by
  split
  ·rw [Int.natAbs_mul]
   exact (Bd.mul (hz j h1) (hy _ (by omega))).more (by omega)
  ·exact Nat.pow_pos (by omega)
 exact ((Bd.tr h3 h4).le (Int.natAbs_add_le _ _)).more (by omega)
theorem KH (z:Int):dG z z=0:=by
 unfold dG
 rw [if_neg (by omega),if_pos rfl]
def KJ (z:Int) (k l:Nat):List WP:=[Iw z k,Iw z l,Ni (dG z z)]
def KK:List Step:=[.base ⟨138,[0,1],[oN 2],false⟩,bQ [2,.lit (.ci .i64 0)] oT (au .eql)]
def KL:List Out:=[oI 0,oI 1]
theorem KM {z:Int} (hk:k<=400000) (hl:l<=400000):aj (ph (KJ z k l)) prog ⟨137,[0,1],oT,false⟩:=aQ KL oT KK func137 (by kernel_rfl) (lB (mf iI iI rfl rfl) (lB (cB (op:=.eql) ad (cj (decide_eq_true (KH z)) (by simp))) aD))
  (aM [.fact 0 (.agg [.b,.s]),.fact 1 (.agg [.b,.s])] ⟨fun _ _ h=>aF.is h,fun _ _ h=>aF.is h,trivial⟩) aV
theorem zt {l:Nat}{z:Int} (hp:∀w v,Φ p w v->aF w v z k) (hq:∀w v,Φ q w v->aF w v z l) (hk:k<=400000) (hl:l<=400000):aj Φ prog ⟨137,[.fact p,.fact q],oT,false⟩:=
 aT (KM hk hl) ⟨hp,hq,trivial⟩ ⟨⟨rfl,trivial⟩,trivial⟩
def ua (z:Nat->Int) (n k l:Nat):List WP:=[Rw 2 (If z k) n,Rw 2 (If z l) n,Nz n,Nz n,Nz n]
def KN (z:Nat->Int) (k l:Nat) (j:Nat):List WP:=[Nz j,Ptr 2 (Iw (z j) k),Iw (z j) k,Ptr 2 (Iw (z j) l),Iw (z j) l,Nz (j+1)]
def KO:bJ:=⟨[0,1,2,6,10,11,12,13,14,15,16],[(.slot 17,.i)],[(.one 0,5)],[.closed (.one (.ci .i64 0))],5,[]⟩
def zu:List Step:=[bQ [5,4] oT (au .lss),bQ [0,5] [oP 6] (aN 24),bQ [6] [oI 7] (aO 27),bQ [1,5] [oP 8] (aN 24),bQ [8] [oI 9] (aO 27),.base ⟨137,[7,9],oT,false⟩,bQ [5,.lit (.ci .i64 1)] [oN 10] (au .add)]
def KP:List Step:=[bQ [5,4] oF (au .lss)]
def KQ:List Step:=[bQ [0] [oN 2] (aK 24),bQ [1] [oN 3] (aK 24),bQ [2,3] oF (au .neq),bQ [0] [oN 4] (aK 24),.loop KO [(zu,[.frm 10])] KP]
def KR:List Out:=[oS 0,oS 1,⟨.one (.lit (.fn 137)),[]⟩]
theorem KS  (hn:n<=1000000) (hk:k<=400000) (hl:l<=400000):aj (ph (ua z n k l)) prog ⟨136,[0,1,.lit (.fn 137)],oT,false⟩:=aQ KR oT KQ func136 (by kernel_rfl) (lB (aS (F:=(If z k)) underlying24 ad rfl) (lB (aS (F:=(If z l)) underlying24 ad rfl) (lB (iH (op:=.neq) ad ad (cj (decide_eq_false (fun h=>h rfl)) (by simp))) (lB (aS (F:=(If z k)) underlying24 ad rfl) (cm (counted n (fun j=>ph (ua z n k l ++ KN z k l j)) (fun _=>0) (fun j p hp=>cn (show p<(ua z n k l).length from hp)) ⟨fun _=>rfl,trivial⟩ (fun j hj=>by
   skip
   exact ⟨(zu,[.frm 10]),rfl,⟨ad,trivial⟩,(lB (bH ad ad) (lB (co (i:=j) (F:=(If z k)) underlying24 ad ad rfl) (lB (cU (sz:=2) (F:=Iw (z j) k) ad (fun _ _ _ g h=>aF.kp h g) (fun _ _ h=>aF.is h) rfl) (lB (co (i:=j) (F:=(If z l)) underlying24 ad ad rfl) (lB (cU (sz:=2) (F:=Iw (z j) l) ad (fun _ _ _ g h=>aF.kp h g) (fun _ _ h=>aF.is h) rfl) (lB (zt iI iI (by omega) (by omega)) (lB (ct ad rfl) aD)))))))⟩) (lB (tlF ad ad) aD)
   (fun q hq=>by cases hq)) aD)))))
  (aM [.fact 0 (.one (.s)),.fact 1 (.one (.s)),.lit (.fn 137)] ⟨Rw.Is 2 (If z k) n,Rw.Is 2 (If z l) n,(fun _ h=>by cases h),trivial⟩) aV
theorem KT  (hp:∀w v,Φ p w v->Rw 2 (If z k) n w v) (hq:∀w v,Φ q w v->Rw 2 (If y l) m w v) (h:n=m) (hs:∀i,i<n->z i=y i) (hn:n<=1000000:=by omega) (hk:k<=400000:=by omega) (hl:l<=400000:=by omega):aj Φ prog ⟨136,[.fact p,.fact q,.lit (.fn 137)],oT,false⟩:=by
 subst h
 exact aT (KS hn hk hl) ⟨hp,fun w v h=>Rw.to (F:=fun i w v=>aF w v (y i) l) (G:=fun i w v=>aF w v (z i) l) (hq w v h) fun i w v hi h=>by rw [hs i hi];exact h,rfl,trivial⟩ ⟨⟨rfl,trivial⟩,trivial⟩
def KU (z y:Nat->Int) (n m k l:Nat):List WP:=[Rw 2 (If z k) n,Rw 2 (If y l) m,Rw 2 (If z k) (tl z n),Rw 2 (If y l) (tl y m)]
def KV:List Step:=[.base ⟨105,[0],[oS 2],false⟩,.base ⟨105,[1],[oS 3],false⟩,.base ⟨136,[2,3,.lit (.fn 137)],oT,false⟩]
def KW:List Out:=[oS 0,oS 1]
theorem MF  (hn:n<=1000000) (hm:m<=1000000) (hk:k<=400000) (hl:l<=400000) (hs:tl z n=tl y m∧∀i,i<tl z n->z i=y i):aj (ph (KU z y n m k l)) prog ⟨94,[0,1],oT,false⟩:=by
 have hz:=bi z n
 exact aQ KW oT KV func94 (by kernel_rfl) (lB (ig (z:=z) (n:=n) (k:=k) (F:=(If z k)) ad aV (fun _ _ _ _ g h=>aF.kp h g) rfl) (lB (ig (z:=y) (n:=m) (k:=l) (F:=(If y l)) ad aV (fun _ _ _ _ g h=>aF.kp h g) rfl) (lB (KT (Rw.To 2 (If z k) (tl z n) (fun _ _ _ _ h=>h)) (Rw.To 2 (If y l) (tl y m) (fun _ _ _ _ h=>h)) hs.1 hs.2) aD)))
  (aM [.fact 0 (.one (.s)),.fact 1 (.one (.s))] ⟨Rw.Is 2 (If z k) n,Rw.Is 2 (If y l) m,trivial⟩) aV
theorem zw  (h:∀i,upto n z i=upto m y i):tl z n<=tl y m:=by
 rcases Nat.lt_or_ge (tl y m) (tl z n) with h1 | h1
 ·have h2:=gE z n (by omega)
  have h3:=h (tl z n-1)
  have h4:=bi z n
  rw [gi,kY (z:=y) (n:=m)] at h3
  exact absurd h3 h2
 ·exact h1
theorem MG  (h:∀i,upto n z i=upto m y i):tl z n=tl y m∧∀i,i<tl z n->z i=y i:=by
 have e:=Nat.le_antisymm (zw h) (zw fun i=>(h i).symm)
 refine ⟨e,fun i hi=>?_⟩
 have h1:=h i
 have h2:=bi z n
 have h3:=bi y m
 rwa [gi,gi] at h1
section
variable {x c:Nat}{L:List Int}
theorem ub (hp:∀w v,Φ p w v->Rw 2 (If z k) n w v) (hq:∀w v,Φ q w v->Rw 2 (If y l) m w v) (hn:n<=1000000) (hm:m<=1000000) (hs:∀i,upto n z i=upto m y i) (hk:k<=400000:=by omega) (hl:l<=400000:=by omega):aj Φ prog ⟨94,[.fact p,.fact q],oT,false⟩:=
 aT (MF hn hm hk hl (MG hs)) ⟨hp,hq,trivial⟩ ⟨⟨rfl,trivial⟩,trivial⟩
theorem td (hp:∀w v,Φ p w v->Rw 2 (If z k) n w v) (hx:Φ x=Rw 2 (Nf (ae L) k) L.length) (hL:an (mk n z)=L) (hn:n<=1000000:=by omega) (hk:k<=500000:=by omega):aj Φ prog ⟨103,[.fact p],[oS x],false⟩:=
 aT (PT hn hk) ⟨hp,trivial⟩ ⟨⟨rfl,⟨rfl,rfl,fun _ _ h=>hx▸hL▸h⟩,trivial⟩,trivial⟩
theorem KD (hp:∀w v,Φ p w v->Rw 2 (If z k) n w v) (hq:∀w v,Φ q w v->Rw 2 (If y l) m w v) (hx:Φ x=Rw 2 (Nf (ae L) (k+l+1)) L.length) (hn:n<=1000000) (hm:m<=1000000) (hk:k<=200000) (hl:l<=200000) (hL:an (mk (max n m) (fun i=>upto n z i+upto m y i))=L):aj Φ prog ⟨141,[.fact p,.fact q],[oS x],false⟩:=
 aT (PX hn hm hk hl) ⟨hp,hq,trivial⟩ ⟨⟨rfl,⟨rfl,rfl,fun _ _ h=>hx▸hL▸h⟩,trivial⟩,trivial⟩
theorem KE (hp:∀w v,Φ p w v->Rw 2 (If z k) n w v) (hq:∀w v,Φ q w v->Rw 2 (If y l) m w v) (hx:Φ x=Rw 2 (Nf (ae L) (k+l+1)) L.length) (hn:n<=1000000) (hm:m<=1000000) (hk:k<=200000) (hl:l<=200000) (hL:an (mk (max n m) (fun i=>upto n z i-upto m y i))=L):aj Φ prog ⟨62,[.fact p,.fact q],[oS x],false⟩:=
 aT (Qb hn hm hk hl) ⟨hp,hq,trivial⟩ ⟨⟨rfl,⟨rfl,rfl,fun _ _ h=>hx▸hL▸h⟩,trivial⟩,trivial⟩
theorem CC {v:Value} (h:Rw 2 (If z k) n w v) (i:Nat) (hi:i<n):Bd (z i).natAbs k:=by
 obtain ⟨_,_,_,_,h1⟩:=h
 obtain ⟨_,_,_,l,_,_,h2⟩:=h1 i hi
 exact aF.bd' h2
theorem CD {X:Nat->Prop}{us:List Value} (hx:Φ x=Rw 2 (Nf (ae L) K) L.length) (hL:L = []) (h:ch Φ X w [⟨.one (.lit .nl),[]⟩] us):ch Φ X w [oS x] us:=by
 subst hL
 match us,h with
 | [u],h=>
  obtain rfl:u = .slice none 0 0:=h.1.1.1
  exact cP ⟨⟨_,_,_,rfl⟩,fun _ h=>by cases h⟩ hx fun w1 _=>Rw.nil 2 _ w1
theorem KC (hp:∀w v,Φ p w v->Rw 2 (If z k) n w v) (hq:∀w v,Φ q w v->Rw 2 (If y l) m w v) (hx:Φ x=Rw 2 (Nf (ae L) (k+l+c+1)) L.length) (hn:n<=c) (hm:m<=400000) (hc:c<=1000) (hk:k<=100000) (hl:l<=100000) (hL:mulL z n y m=L):aj Φ prog ⟨142,[.fact p,.fact q],[oS x],false⟩:=fun X w vs hX ha=>by
 match vs,ha with
 | [v,u],ha=>
  have hz:=CC (hp _ _ (ha.1 w (Off.refl _ _)))
  have hy:=CC (hq _ _ (ha.2.1 w (Off.refl _ _)))
  have hzl:=bi z n
  have hyl:=bi y m
  rcases Nat.eq_zero_or_pos (tl z n) with h1 | h1
  ·exact (aT (outs:=[⟨.one (.lit .nl),[]⟩]) (Φ:=Φ) (ar:=[.fact p,.fact q]) (Qo (z:=z) (y:=y) (n:=n) (m:=m) (k:=k) (l:=l) hm hk hl h1) ⟨hp,hq,trivial⟩ ⟨⟨rfl,trivial⟩,trivial⟩ X w [v,u] hX ha).mono fun e w' ⟨hg,us,he,h2⟩=>⟨hg,us,he,CD hx (by rw [<- hL,mulL,if_pos (.inl h1)]) h2⟩
  rcases Nat.eq_zero_or_pos (tl y m) with h2 | h2
  ·exact (aT (outs:=[⟨.one (.lit .nl),[]⟩]) (Φ:=Φ) (ar:=[.fact p,.fact q]) (Qs (z:=z) (y:=y) (n:=n) (m:=m) (k:=k) (l:=l) hm hk hl h1 h2) ⟨hp,hq,trivial⟩ ⟨⟨rfl,trivial⟩,trivial⟩ X w [v,u] hX ha).mono fun e w' ⟨hg,us,he,h2'⟩=>⟨hg,us,he,CD hx (by rw [<- hL,mulL,if_pos (.inr h2)]) h2'⟩
  ·refine aT (Φ:=Φ) (ar:=[.fact p,.fact q]) (outs:=[oS x]) (Qk (z:=z) (y:=y) (n:=n) (m:=m) (k:=k) (l:=l) (K:=k+l+c+1) (by omega) hm hk hl (by omega) h1 h2 fun j i p hj hi=>CB (n:=tl z n) (l:=tl y m) (c:=c) (fun i hi=>hz i (by omega)) (fun i hi=>hy i (by omega)) hj (by omega) hi p) ⟨hp,hq,trivial⟩ ⟨⟨rfl,⟨rfl,rfl,fun w v h=>?_⟩,trivial⟩,trivial⟩ X w [v,u] hX ha
   rw [hx,<- hL,mulL,if_neg (by omega),dC]
   exact Rw.to (aC.rw (e:=27) (F:=fun i w v=>ak w v (dq z y (tl y m) (tl z n) i) (k+l+c+1)) h) fun i w v hi h=>h.eq (by rw [cM,if_pos hi])
end
end Go.Proofs.YtbjfgffibepmkaaGreat.Sym
