/- poly.each and both (Norm -/
import Derived.Test.YtlmanbjkkjfjgaaGreatPolX
set_option maxRecDepth 100000
namespace Go.Proofs.YtlmanbjkkjfjgaaGreat.Sym
open Go.Proofs.Tryz
open Go.RowKit
variable {Φ:PH}{K i j k l m n p q:Nat}{f y z:Nat->Int}{w:World}
theorem WZ {x:Nat}{z y t:Int} (hp:Im Φ p (Iw z i)) (hq:Im Φ q (Iw y j)) (hx:Φ x=Nw t (i+j+1)) (ht:z-y=t) (hi:i+j<=1000000:=by omega):aj Φ prog ⟨78,[.fact p,.fact q],[⟨iS,[(0,0,x)]⟩],false⟩:=
 fe λ_ _ _ _ h0 h1=>((Ug (hp _ _ (get h0)) (hq _ _ (get h1)) hi).mono λ_ _ h=>h.got).mono λ_ _ h=>kP (ht▸hx) h
def ef (z y:Nat->Int) (l:Nat):Nat->Nat->Int
 | 0,_=>0
 | j+1,p=>ef z y l j p+(if j<=p∧p<j+l then z j*y (p-j) else 0)
def eu (z y:Nat->Int) (l:Nat) (j i p:Nat):Int:=ef z y l j p+(if j<=p∧p<j+i then z j*y (p-j) else 0)
def yn (z:Nat->Int) (n k:Nat):List WP:=[Rw 2 (If z k) n,Nz n,aA 2 28 (Nf (upto 0 z) k) n,Nz n,aA 2 28 (Nf (upto n z) k) n,Rw 2 (Nf (upto n z) k) (tl (upto n z) n)]
def Xa (z:Nat->Int) (n k:Nat) (j:Nat):List WP:=[Nz j,aA 2 28 (Nf (upto j z) k) n,λ_ _=>True,Ptr 2 (Iw (z j) k),Iw (z j) k,Nw (z j) k,At 2,Ptr 2 (Nw ((upto j z) j) k),aA 2 28 (Nf (upto (j+1) z) k) n,Nz (j+1)]
def GH:bp:=⟨[0,1,4,8,9,10,11,12],[(.slot 13,.i),(.slot 5,.s)],[(.one 0,6),(.one 1,.cM [1] 7),(.one 1,.lo 1)],[.closed (.one (Ai 0)),.frm 2,.frm 0],6,[(7,4)]⟩
def GI:List Step:=[bQ [6,3] oT (am .lss),bQ [0,6] [oP 9] (adK 25),bQ [9] [oI 10] (aQ 28),
   cB 63 [10] [oI 11],.base ⟨0,[7,6],[oP 13],.joint [1] 12 (adK 25)⟩,.base ⟨0,[7,6,.any,11],[oS 14],.put [] 1 0 12 (fE 28 (.tmp 18) (.tmp 19))⟩,bQ [6,.lit (Ai 1)] [oN 15] (am .add)]
def Xb:List Step:=[bQ [6,3] oF (am .lss)]
def Xc:List Step:=[bQ [0] [oN 1] (aC 25),.base ⟨0,[1,1],[oS 2],.loose [] 1 0 (ga 25)⟩,bQ [0] [oN 3] (aC 25),.loop GH [(GI,[.frm 15,.frm 14,.frm 0])] Xb,.base ⟨69,[4],[oS 5],.dR [1] false⟩]
def Xd:List Out:=[oS 0,⟨.one (.lit (.fn 63)),[]⟩]
theorem Xe  (hn:n<=1000000) (hk:k<=500000):aj (ph (yn z n k)) prog ⟨111,[0,.lit (.fn 63)],[oS 5],false⟩:=adL Xd [oS 5] Xc func111 (by kernel_rfl) (lB (aM (F:=(If z k)) underlying25 ad rfl) (lB (mI (n:=n) (F:=(Nf (upto 0 z) k)) ad (λ_ w=>ak.zero w k) rfl) (lB (aM (F:=(If z k)) underlying25 ad rfl) (bN (counted n (λj=>ph (yn z n k ++ Xa z n k j)) (λ_=>0) (λ_ p hp=>bO (show p<(yn z n k).length from hp)) ⟨λ_=>rfl,ad,bI,trivial⟩ (λj _=>by
   skip
   exact ⟨(GI,[.frm 15,.frm 14,.frm 0]),rfl,⟨ad,ad,bI,trivial⟩,(lB (bK ad ad) (lB (bw (i:=j) (F:=(If z k)) underlying25 ad ad rfl) (lB (bT (sz:=2) (F:=Iw (z j) k) ad (λ_ _ _ g h=>aD.kp h g) (λ_ _ h=>aD.is h) rfl) (lB (oB iI rfl rfl) (lB (fO (i:=j) (sz:=2) (n:=n) (F:=(Nf (upto j z) k)) underlying25 (λ_ _ h=>aA.arr h) ad rfl rfl) (lB (ij (i:=j) (n:=n) (F:=(λι w v=>ak w v ((upto j z) ι) k)) (F':=(λι w v=>ak w v ((upto (j+1) z) ι) k)) (G:=Nw (z j) k) (.tmp 18) (.tmp 19) ad ad ad rfl (λ_ _ h=>ak.cells h) (λ_ _ _ _ g h=>ak.kp h g) (λ_ _ _ g h=>ak.kp h g) (λ_ _ _ hi h=>by rw [oh hi];exact h) (λ_ _ h=>h.eq (ol j z).symm) rfl) (lB (ch ad rfl) au)))))))⟩) (lB (tlF ad ad) au)
   (poC (λ_ _ h=>(λh=>h) h) poN)) (lB (eS [1] (iz (z:=(upto n z)) (n:=n) (k:=k) (F:=(Nf (upto n z) k)) (λ_ _ h=>aA.rw h) (λ_ _ _ h=>ak.i h) (λ_ _ _ _ g h=>ak.kp h g) rfl)) au)))))
  (aP [.fact 0 (.one (.s)),.lit (.fn 63)] ⟨Rw.Is 2 (If z k) n,(λ_ h=>by cases h),trivial⟩) aV
def yo (z y:Nat->Int) (n m k l:Nat):List WP:=[Rw 2 (If z k) n,Rw 2 (If y l) m,Nz n,Nz m,Nz (max n m),aA 2 28 (Nf (upto 0 (λi=>upto n z i+upto m y i)) (k+l+1)) (max n m),fb (max n m),Nz (max n m),aA 2 28 (Nf (upto (max n m) (λi=>upto n z i+upto m y i)) (k+l+1)) (max n m),Rw 2 (Nf (upto (max n m) (λi=>upto n z i+upto m y i)) (k+l+1)) (tl (upto (max n m) (λi=>upto n z i+upto m y i)) (max n m))]
def Xf (z y:Nat->Int) (n m k l:Nat) (j:Nat):List WP:=[Nz j,aA 2 28 (Nf (upto j (λi=>upto n z i+upto m y i)) (k+l+1)) (max n m),λ_ _=>True,Iw (upto n z j) k,Iw (upto m y j) l,Nw ((upto n z j)+(upto m y j)) (k+l+1),At 2,Ptr 2 (Nw ((upto j (λi=>upto n z i+upto m y i)) j) (k+l+1)),aA 2 28 (Nf (upto (j+1) (λi=>upto n z i+upto m y i)) (k+l+1)) (max n m),Nz (j+1)]
def GJ:bp:=⟨[0,1,2,6,9,10,11,12,13,14,15,16],[(.slot 17,.i),(.slot 7,.s)],[(.one 0,10),(.one 1,.cM [1] 11),(.one 1,.lo 1)],[.closed (.one (Ai 0)),.frm 5,.frm 0],10,[(11,8)]⟩
def GK:List Step:=[bQ [10,7] oT (am .lss),
   cB 120 [0,10] [oI 13],
   cB 120 [1,10] [oI 14],
   cB 121 [13,14] [oI 15],.base ⟨0,[11,10],[oP 17],.joint [1] 16 (adK 25)⟩,.base ⟨0,[11,10,.any,15],[oS 18],.put [] 1 0 16 (fE 28 (.tmp 20) (.tmp 21))⟩,bQ [10,.lit (Ai 1)] [oN 19] (am .add)]
def Xg:List Step:=[bQ [10,7] oF (am .lss)]
def Xh:List Step:=[bQ [0] [oN 2] (aC 25),bQ [1] [oN 3] (aC 25),bQ [2,3] [oN 4] (kF .max),.base ⟨0,[4,4],[oS 5],.loose [] 1 0 (ga 25)⟩,.freed (.one (.s 7 0)) 5 6,bQ [6] [oN 7] (aC 25),.loop GJ [(GK,[.frm 19,.frm 18,.frm 0])] Xg,.base ⟨69,[8],[oS 9],.dR [1] false⟩]
def Xi:List Out:=[oS 0,oS 1,⟨.one (.lit (.fn 121)),[]⟩]
theorem Xj  (hn:n<=1000000) (hm:m<=1000000) (hk:k<=200000) (hl:l<=200000):aj (ph (yo z y n m k l)) prog ⟨77,[0,1,.lit (.fn 121)],[oS 9],false⟩:=adL Xi [oS 9] Xh func77 (by kernel_rfl) (lB (aM (F:=(If z k)) underlying25 ad rfl) (lB (aM (F:=(If y l)) underlying25 ad rfl) (lB (sH ad ad (by split <;> omega) rfl) (lB (mI (n:=(max n m)) (F:=(Nf (upto 0 (λi=>upto n z i+upto m y i)) (k+l+1))) ad (λ_ w=>ak.zero w (k+l+1)) rfl) (gu (mM (e:=28) (sz:=2) (n:=(max n m)) (F:=(Nf (upto 0 (λi=>upto n z i+upto m y i)) (k+l+1))) ad rfl) (lB (eH (n:=(max n m)) underlying25 ad rfl) (bN (counted (max n m) (λj=>ph (yo z y n m k l ++ Xf z y n m k l j)) (λ_=>0) (λ_ p hp=>bO (show p<(yo z y n m k l).length from hp)) ⟨λ_=>rfl,ad,bI,trivial⟩ (λj _=>by
   skip
   exact ⟨(GK,[.frm 19,.frm 18,.frm 0]),rfl,⟨ad,ad,bI,trivial⟩,(lB (bK ad ad) (lB (uc (z:=z) (n:=n) (i:=j) (Rw.To 2 (If z k) n (λ_ _ _ _ h=>h)) ad rfl (λh=>(gm (h:=h)).symm) (λ_=>if_neg (by omega))) (lB (uc (z:=y) (n:=m) (i:=j) (Rw.To 2 (If y l) m (λ_ _ _ _ h=>h)) ad rfl (λh=>(gm (h:=h)).symm) (λ_=>if_neg (by omega))) (lB (GL iI iI rfl rfl) (lB (fO (i:=j) (sz:=2) (n:=(max n m)) (F:=(Nf (upto j (λi=>upto n z i+upto m y i)) (k+l+1))) underlying25 (λ_ _ h=>aA.arr h) ad rfl rfl) (lB (ij (i:=j) (n:=(max n m)) (F:=(λι w v=>ak w v ((upto j (λi=>upto n z i+upto m y i)) ι) (k+l+1))) (F':=(λι w v=>ak w v ((upto (j+1) (λi=>upto n z i+upto m y i)) ι) (k+l+1))) (G:=Nw ((upto n z j)+(upto m y j)) (k+l+1)) (.tmp 20) (.tmp 21) ad ad ad rfl (λ_ _ h=>ak.cells h) (λ_ _ _ _ g h=>ak.kp h g) (λ_ _ _ g h=>ak.kp h g) (λ_ _ _ hi h=>by rw [oh hi];exact h) (λ_ _ h=>h.eq (ol j (λi=>upto n z i+upto m y i)).symm) rfl) (lB (ch ad rfl) au)))))))⟩) (lB (tlF ad ad) au)
   (poC (λ_ _ h=>(λh=>h) h) poN)) (lB (eS [1] (iz (z:=(upto (max n m) (λi=>upto n z i+upto m y i))) (n:=(max n m)) (k:=(k+l+1)) (F:=(Nf (upto (max n m) (λi=>upto n z i+upto m y i)) (k+l+1))) (λ_ _ h=>aA.rw h) (λ_ _ _ h=>ak.i h) (λ_ _ _ _ g h=>ak.kp h g) rfl)) au))))))))
  (aP [.fact 0 (.one (.s)),.fact 1 (.one (.s)),.lit (.fn 121)] ⟨Rw.Is 2 (If z k) n,Rw.Is 2 (If y l) m,(λ_ h=>by cases h),trivial⟩) aV
def yp (z y:Nat->Int) (n m k l:Nat):List WP:=[Rw 2 (If z k) n,Rw 2 (If y l) m,Nz n,Nz m,Nz (max n m),aA 2 28 (Nf (upto 0 (λi=>upto n z i-upto m y i)) (k+l+1)) (max n m),fb (max n m),Nz (max n m),aA 2 28 (Nf (upto (max n m) (λi=>upto n z i-upto m y i)) (k+l+1)) (max n m),Rw 2 (Nf (upto (max n m) (λi=>upto n z i-upto m y i)) (k+l+1)) (tl (upto (max n m) (λi=>upto n z i-upto m y i)) (max n m))]
def Xk (z y:Nat->Int) (n m k l:Nat) (j:Nat):List WP:=[Nz j,aA 2 28 (Nf (upto j (λi=>upto n z i-upto m y i)) (k+l+1)) (max n m),λ_ _=>True,Iw (upto n z j) k,Iw (upto m y j) l,Nw ((upto n z j)-(upto m y j)) (k+l+1),At 2,Ptr 2 (Nw ((upto j (λi=>upto n z i-upto m y i)) j) (k+l+1)),aA 2 28 (Nf (upto (j+1) (λi=>upto n z i-upto m y i)) (k+l+1)) (max n m),Nz (j+1)]
def GM:bp:=⟨[0,1,2,6,9,10,11,12,13,14,15,16],[(.slot 17,.i),(.slot 7,.s)],[(.one 0,10),(.one 1,.cM [1] 11),(.one 1,.lo 1)],[.closed (.one (Ai 0)),.frm 5,.frm 0],10,[(11,8)]⟩
def GN:List Step:=[bQ [10,7] oT (am .lss),
   cB 120 [0,10] [oI 13],
   cB 120 [1,10] [oI 14],
   cB 78 [13,14] [oI 15],.base ⟨0,[11,10],[oP 17],.joint [1] 16 (adK 25)⟩,.base ⟨0,[11,10,.any,15],[oS 18],.put [] 1 0 16 (fE 28 (.tmp 20) (.tmp 21))⟩,bQ [10,.lit (Ai 1)] [oN 19] (am .add)]
def Xl:List Step:=[bQ [10,7] oF (am .lss)]
def Xm:List Step:=[bQ [0] [oN 2] (aC 25),bQ [1] [oN 3] (aC 25),bQ [2,3] [oN 4] (kF .max),.base ⟨0,[4,4],[oS 5],.loose [] 1 0 (ga 25)⟩,.freed (.one (.s 7 0)) 5 6,bQ [6] [oN 7] (aC 25),.loop GM [(GN,[.frm 19,.frm 18,.frm 0])] Xl,.base ⟨69,[8],[oS 9],.dR [1] false⟩]
def Xn:List Out:=[oS 0,oS 1,⟨.one (.lit (.fn 78)),[]⟩]
theorem Xo  (hn:n<=1000000) (hm:m<=1000000) (hk:k<=200000) (hl:l<=200000):aj (ph (yp z y n m k l)) prog ⟨77,[0,1,.lit (.fn 78)],[oS 9],false⟩:=adL Xn [oS 9] Xm func77 (by kernel_rfl) (lB (aM (F:=(If z k)) underlying25 ad rfl) (lB (aM (F:=(If y l)) underlying25 ad rfl) (lB (sH ad ad (by split <;> omega) rfl) (lB (mI (n:=(max n m)) (F:=(Nf (upto 0 (λi=>upto n z i-upto m y i)) (k+l+1))) ad (λ_ w=>ak.zero w (k+l+1)) rfl) (gu (mM (e:=28) (sz:=2) (n:=(max n m)) (F:=(Nf (upto 0 (λi=>upto n z i-upto m y i)) (k+l+1))) ad rfl) (lB (eH (n:=(max n m)) underlying25 ad rfl) (bN (counted (max n m) (λj=>ph (yp z y n m k l ++ Xk z y n m k l j)) (λ_=>0) (λ_ p hp=>bO (show p<(yp z y n m k l).length from hp)) ⟨λ_=>rfl,ad,bI,trivial⟩ (λj _=>by
   skip
   exact ⟨(GN,[.frm 19,.frm 18,.frm 0]),rfl,⟨ad,ad,bI,trivial⟩,(lB (bK ad ad) (lB (uc (z:=z) (n:=n) (i:=j) (Rw.To 2 (If z k) n (λ_ _ _ _ h=>h)) ad rfl (λh=>(gm (h:=h)).symm) (λ_=>if_neg (by omega))) (lB (uc (z:=y) (n:=m) (i:=j) (Rw.To 2 (If y l) m (λ_ _ _ _ h=>h)) ad rfl (λh=>(gm (h:=h)).symm) (λ_=>if_neg (by omega))) (lB (WZ iI iI rfl rfl) (lB (fO (i:=j) (sz:=2) (n:=(max n m)) (F:=(Nf (upto j (λi=>upto n z i-upto m y i)) (k+l+1))) underlying25 (λ_ _ h=>aA.arr h) ad rfl rfl) (lB (ij (i:=j) (n:=(max n m)) (F:=(λι w v=>ak w v ((upto j (λi=>upto n z i-upto m y i)) ι) (k+l+1))) (F':=(λι w v=>ak w v ((upto (j+1) (λi=>upto n z i-upto m y i)) ι) (k+l+1))) (G:=Nw ((upto n z j)-(upto m y j)) (k+l+1)) (.tmp 20) (.tmp 21) ad ad ad rfl (λ_ _ h=>ak.cells h) (λ_ _ _ _ g h=>ak.kp h g) (λ_ _ _ g h=>ak.kp h g) (λ_ _ _ hi h=>by rw [oh hi];exact h) (λ_ _ h=>h.eq (ol j (λi=>upto n z i-upto m y i)).symm) rfl) (lB (ch ad rfl) au)))))))⟩) (lB (tlF ad ad) au)
   (poC (λ_ _ h=>(λh=>h) h) poN)) (lB (eS [1] (iz (z:=(upto (max n m) (λi=>upto n z i-upto m y i))) (n:=(max n m)) (k:=(k+l+1)) (F:=(Nf (upto (max n m) (λi=>upto n z i-upto m y i)) (k+l+1))) (λ_ _ h=>aA.rw h) (λ_ _ _ h=>ak.i h) (λ_ _ _ _ g h=>ak.kp h g) rfl)) au))))))))
  (aP [.fact 0 (.one (.s)),.fact 1 (.one (.s)),.lit (.fn 78)] ⟨Rw.Is 2 (If z k) n,Rw.Is 2 (If y l) m,(λ_ h=>by cases h),trivial⟩) aV
section
variable {x:Nat}{L:List Int}
theorem Xp (hp:Im Φ p (Rw 2 (If z k) n)) (hx:Φ x=Rw 2 (Nf (ae L) k) L.length) (hL:aw (mk n z)=L) (hn:n<=1000000:=by omega) (hk:k<=500000:=by omega):aj Φ prog ⟨111,[.fact p,.lit (.fn 63)],[oS x],false⟩:=
 aU (Xe hn hk) ⟨hp,rfl,trivial⟩ ⟨⟨rfl,⟨rfl,rfl,λ_ _ h=>hx▸hL▸rh h⟩,trivial⟩,trivial⟩
theorem Xq (hp:Im Φ p (Rw 2 (If z k) n)) (hq:Im Φ q (Rw 2 (If y l) m)) (hx:Φ x=Rw 2 (Nf (ae L) (k+l+1)) L.length) (hL:aw (mk (max n m) (λi=>upto n z i+upto m y i))=L) (hn:n<=1000000:=by omega) (hm:m<=1000000:=by omega) (hk:k<=200000:=by omega) (hl:l<=200000:=by omega):aj Φ prog ⟨77,[.fact p,.fact q,.lit (.fn 121)],[oS x],false⟩:=
 aU (Xj hn hm hk hl) ⟨hp,hq,rfl,trivial⟩ ⟨⟨rfl,⟨rfl,rfl,λ_ _ h=>hx▸hL▸rh h⟩,trivial⟩,trivial⟩
theorem Xr (hp:Im Φ p (Rw 2 (If z k) n)) (hq:Im Φ q (Rw 2 (If y l) m)) (hx:Φ x=Rw 2 (Nf (ae L) (k+l+1)) L.length) (hL:aw (mk (max n m) (λi=>upto n z i-upto m y i))=L) (hn:n<=1000000:=by omega) (hm:m<=1000000:=by omega) (hk:k<=200000:=by omega) (hl:l<=200000:=by omega):aj Φ prog ⟨77,[.fact p,.fact q,.lit (.fn 78)],[oS x],false⟩:=
 aU (Xo hn hm hk hl) ⟨hp,hq,rfl,trivial⟩ ⟨⟨rfl,⟨rfl,rfl,λ_ _ h=>hx▸hL▸rh h⟩,trivial⟩,trivial⟩
end
def Xs (z:Nat->Int) (n k:Nat):List WP:=[Rw 2 (If z k) n,Rw 2 (Nf (ae (aw (mk n z))) k) ((aw (mk n z)).length)]
def Xt:List Step:=[cB 111 [0,.lit (.fn 63)] [oS 1]]
def Xu:List Out:=[oS 0]
theorem Xv  (hn:n<=1000000) (hk:k<=500000):aj (ph (Xs z n k)) prog ⟨67,[0],[oS 1],false⟩:=adL Xu [oS 1] Xt func67 (by kernel_rfl) (lB (Xp (Rw.To 2 (If z k) n (λ_ _ _ _ h=>h)) rfl rfl) au)
  (aP [.fact 0 (.one (.s))] ⟨Rw.Is 2 (If z k) n,trivial⟩) aV
def Xw (z y:Nat->Int) (n m k l:Nat):List WP:=[Rw 2 (If z k) n,Rw 2 (If y l) m,Rw 2 (Nf (ae (aw (mk (max n m) (λi=>upto n z i+upto m y i)))) (k+l+1)) ((aw (mk (max n m) (λi=>upto n z i+upto m y i))).length)]
def Xx:List Step:=[cB 77 [0,1,.lit (.fn 121)] [oS 2]]
def Xy:List Out:=[oS 0,oS 1]
theorem Xz  (hn:n<=1000000) (hm:m<=1000000) (hk:k<=200000) (hl:l<=200000):aj (ph (Xw z y n m k l)) prog ⟨118,[0,1],[oS 2],false⟩:=adL Xy [oS 2] Xx func118 (by kernel_rfl) (lB (Xq (Rw.To 2 (If z k) n (λ_ _ _ _ h=>h)) (Rw.To 2 (If y l) m (λ_ _ _ _ h=>h)) rfl rfl) au)
  (aP [.fact 0 (.one (.s)),.fact 1 (.one (.s))] ⟨Rw.Is 2 (If z k) n,Rw.Is 2 (If y l) m,trivial⟩) aV
def XA (z y:Nat->Int) (n m k l:Nat):List WP:=[Rw 2 (If z k) n,Rw 2 (If y l) m,Rw 2 (Nf (ae (aw (mk (max n m) (λi=>upto n z i-upto m y i)))) (k+l+1)) ((aw (mk (max n m) (λi=>upto n z i-upto m y i))).length)]
def XB:List Step:=[cB 77 [0,1,.lit (.fn 78)] [oS 2]]
def XC:List Out:=[oS 0,oS 1]
theorem XD  (hn:n<=1000000) (hm:m<=1000000) (hk:k<=200000) (hl:l<=200000):aj (ph (XA z y n m k l)) prog ⟨47,[0,1],[oS 2],false⟩:=adL XC [oS 2] XB func47 (by kernel_rfl) (lB (Xr (Rw.To 2 (If z k) n (λ_ _ _ _ h=>h)) (Rw.To 2 (If y l) m (λ_ _ _ _ h=>h)) rfl rfl) au)
  (aP [.fact 0 (.one (.s)),.fact 1 (.one (.s))] ⟨Rw.Is 2 (If z k) n,Rw.Is 2 (If y l) m,trivial⟩) aV
section
theorem XE:eu z y l j 0 p=ef z y l j p:=by unfold eu;rw [if_neg (by omega)];omega
theorem XF (h:p≠j+i):eu z y l j (i+1) p=eu z y l j i p:=by unfold eu;split <;> split <;> first | rfl | omega
theorem XG:eu z y l j i (j+i)+z j*y i=eu z y l j (i+1) (j+i):=by unfold eu;rw [if_neg (by omega),if_pos (by omega),show j+i-j=i by omega];omega
end
def ri (z y:Nat->Int) (n m k l K:Nat):List WP:=[Rw 2 (If z k) n,Rw 2 (If y l) m,Rw 2 (If z k) (tl z n),Rw 2 (If y l) (tl y m),Nz (tl z n),Nz (tl y m),Nz (tl z n),Nz (tl y m),Nz ((tl z n)+(tl y m)),Nz ((tl z n)+(tl y m)-1),aA 2 28 (Nf (ef z y (tl y m) 0) K) ((tl z n)+(tl y m)-1),Nz (tl z n),aA 2 28 (Nf (ef z y (tl y m) (tl z n)) K) ((tl z n)+(tl y m)-1)]
def XH (z y:Nat->Int) (n m k l K:Nat) (j i:Nat):List WP:=[Nz i,aA 2 28 (Nf (eu z y (tl y m) j i) K) ((tl z n)+(tl y m)-1),λ_ _=>True,Ptr 2 (Iw (y i) l),Iw (y i) l,Nz (j+i),Nz (j+i),At 2,Ptr 2 (Nw ((eu z y (tl y m) j i) (j+i)) K),Nw ((eu z y (tl y m) j i) (j+i)) K,Nw ((z j)*(y i)) (k+l),Nw (((eu z y (tl y m) j i) (j+i))+((z j)*(y i))) (K+(k+l)+1),At 2,Ptr 2 (Nw ((eu z y (tl y m) j i) (j+i)) K),aA 2 28 (Nf (eu z y (tl y m) j (i+1)) K) ((tl z n)+(tl y m)-1),Nz (i+1)]
def GO:bp:=⟨[0,1,4,6,7,10,11,12,13,14,15,16,17,18,19,20,21,22,23,24,25,26,27,28,29,30,31,32,33,34,35,36,37],[(.slot 38,.i),(.slot 5,.s)],[(.one 0,21),(.one 1,.cM [1] 22),(.one 1,.lo 1)],[.closed (.one (Ai 0)),.frm 14,.frm 0],21,[(22,19)]⟩
def GP:List Step:=[bQ [21,18] oT (am .lss),bQ [3,21] [oP 24] (adK 25),bQ [24] [oI 25] (aQ 28),bQ [13,21] [oN 26] (am .add),bQ [13,21] [oN 27] (am .add),.base ⟨0,[22,27],[oP 29],.joint [1] 28 (adK 25)⟩,.base ⟨0,[29],[oI 30],.gI [1] (aQ 28)⟩,
   cB 117 [17,25] [oI 31],.base ⟨121,[30,31],[oI 32],.dR [1] false⟩,.base ⟨0,[22,26],[oP 34],.joint [1] 33 (adK 25)⟩,.base ⟨0,[22,26,.any,32],[oS 35],.put [] 1 0 33 (fE 28 (.tmp 43) (.tmp 46))⟩,bQ [21,.lit (Ai 1)] [oN 36] (am .add)]
def XI:List Step:=[bQ [21,18] oF (am .lss)]
def yq (z y:Nat->Int) (n m k K:Nat) (j:Nat):List WP:=[Nz j,aA 2 28 (Nf (ef z y (tl y m) j) K) ((tl z n)+(tl y m)-1),λ_ _=>True,Ptr 2 (Iw (z j) k),Iw (z j) k,Nz (tl y m),aA 2 28 (Nf (eu z y (tl y m) j (tl y m)) K) ((tl z n)+(tl y m)-1),Nz (j+1)]
def GQ:bp:=⟨[0,1,4,10,11,12,13,14,15,16,17,18,19,20,21,22,23,24,25,26,27,28,29,30],[(.slot 31,.i),(.slot 5,.s)],[(.one 0,13),(.one 1,.cM [1] 14),(.one 1,.lo 1)],[.closed (.one (Ai 0)),.frm 10,.frm 0],13,[(14,12)]⟩
def GS:List Step:=[bQ [13,11] oT (am .lss),bQ [2,13] [oP 16] (adK 25),bQ [16] [oI 17] (aQ 28),bQ [3] [oN 18] (aC 25),.loop GO [(GP,[.frm 36,.frm 35,.frm 0])] XI,bQ [13,.lit (Ai 1)] [oN 20] (am .add)]
def XJ:List Step:=[bQ [13,11] oF (am .lss)]
def XK:List Step:=[cB 69 [0] [oS 2],
   cB 69 [1] [oS 3],bQ [2] [oN 4] (aC 25),bQ [4,.lit (Ai 0)] oF (am .eql),bQ [3] [oN 5] (aC 25),bQ [5,.lit (Ai 0)] oF (am .eql),bQ [2] [oN 6] (aC 25),bQ [3] [oN 7] (aC 25),bQ [6,7] [oN 8] (am .add),bQ [8,.lit (Ai 1)] [oN 9] (am .sub),.base ⟨0,[9,9],[oS 10],.loose [] 1 0 (ga 25)⟩,bQ [2] [oN 11] (aC 25),.loop GQ [(GS,[.frm 20,.frm 19,.frm 0])] XJ]
def XL:List Out:=[oS 0,oS 1]
theorem XM  (hn:n<=400000) (hm:m<=400000) (hk:k<=100000) (hl:l<=100000) (hK:K<=300000) (h1:0<(tl z n)) (h2:0<(tl y m)) (hB:∀j i p,j<(tl z n)->i<=(tl y m)->Bd (eu z y (tl y m) j i p).natAbs K):aj (ph (ri z y n m k l K)) prog ⟨119,[0,1],[oS 12],false⟩:=by
 have hz:=bg z n;have hy:=bg y m;exact adL XL [oS 12] XK func119 (by kernel_rfl) (lB (iz (z:=z) (n:=n) (k:=k) (F:=(If z k)) ad aV (λ_ _ _ _ g h=>aD.kp h g) rfl) (lB (iz (z:=y) (n:=m) (k:=l) (F:=(If y l)) ad aV (λ_ _ _ _ g h=>aD.kp h g) rfl) (lB (aM (F:=(If z k)) underlying25 ad rfl) (lB (iL ad) (lB (aM (F:=(If y l)) underlying25 ad rfl) (lB (iL ad) (lB (aM (F:=(If z k)) underlying25 ad rfl) (lB (aM (F:=(If y l)) underlying25 ad rfl) (lB (jG ad ad rfl) (lB (cO ad rfl) (lB (mI (n:=((tl z n)+(tl y m)-1)) (F:=(Nf (ef z y (tl y m) 0) K)) ad (λ_ w=>ak.zero w K) rfl) (lB (aM (F:=(If z k)) underlying25 ad rfl) (bN (counted (tl z n) (λj=>ph (ri z y n m k l K ++ yq z y n m k K j)) (λ_=>0) (λ_ p hp=>bO (show p<(ri z y n m k l K).length from hp)) ⟨λ_=>rfl,ad,bI,trivial⟩ (λj _=>by
   skip
   exact ⟨(GS,[.frm 20,.frm 19,.frm 0]),rfl,⟨ad,ad,bI,trivial⟩,(lB (bK ad ad) (lB (bw (i:=j) (F:=(If z k)) underlying25 ad ad rfl) (lB (bT (sz:=2) (F:=Iw (z j) k) ad (λ_ _ _ g h=>aD.kp h g) (λ_ _ h=>aD.is h) rfl) (lB (aM (F:=(If y l)) underlying25 ad rfl) (bN (counted (tl y m) (λi=>ph ((ri z y n m k l K ++ yq z y n m k K j) ++ XH z y n m k l K j i)) (λ_=>0) (λ_ p hp=>bO (show p<(ri z y n m k l K ++ yq z y n m k K j).length from hp)) ⟨λ_=>rfl,λ_ _ h=>aA.to (sz:=2) (e:=28) (n:=((tl z n)+(tl y m)-1)) (F:=(λι w v=>ak w v ((ef z y (tl y m) j) ι) K)) (G:=(λι w v=>ak w v ((eu z y (tl y m) j 0) ι) K)) h λ_ _ _ _ h=>by rw [XE];exact h,bI,trivial⟩ (λi _=>by
   skip
   exact ⟨(GP,[.frm 36,.frm 35,.frm 0]),rfl,⟨ad,ad,bI,trivial⟩,(lB (bK ad ad) (lB (bw (i:=i) (F:=(If y l)) underlying25 ad ad rfl) (lB (bT (sz:=2) (F:=Iw (y i) l) ad (λ_ _ _ g h=>aD.kp h g) (λ_ _ h=>aD.is h) rfl) (lB (jG ad ad rfl) (lB (jG ad ad rfl) (lB (fO (i:=(j+i)) (sz:=2) (n:=((tl z n)+(tl y m)-1)) (F:=(Nf (eu z y (tl y m) j i) K)) underlying25 (λ_ _ h=>aA.arr h) ad rfl rfl) (lB (bT (sz:=2) (F:=Nw ((eu z y (tl y m) j i) (j+i)) K) ad (λ_ _ _ g h=>ak.kp h g) (λ_ _ h=>ak.is h) rfl) (lB (ud iI iI rfl rfl) (lB (eS [1] (GL nI nI rfl rfl)) (lB (fO (i:=(j+i)) (sz:=2) (n:=((tl z n)+(tl y m)-1)) (F:=(Nf (eu z y (tl y m) j i) K)) underlying25 (λ_ _ h=>aA.arr h) ad rfl rfl) (lB (ij (i:=(j+i)) (n:=((tl z n)+(tl y m)-1)) (F:=(λι w v=>ak w v ((eu z y (tl y m) j i) ι) K)) (F':=(λι w v=>ak w v ((eu z y (tl y m) j (i+1)) ι) K)) (G:=Nw (((eu z y (tl y m) j i) (j+i))+((z j)*(y i))) (K+(k+l)+1)) (.tmp 43) (.tmp 46) ad ad ad rfl (λ_ _ h=>ak.cells h) (λ_ _ _ _ g h=>ak.kp h g) (λ_ _ _ g h=>ak.kp h g) (λ_ _ _ ha h=>by rw [XF ha];exact h) (λ_ _ h=>ak.re (h.eq XG) (hB j (i+1) (j+i) (by omega) (by omega))) rfl) (lB (ch ad rfl) au))))))))))))⟩) (lB (tlF ad ad) au)
   (poC (λ_ _ h=>(λh=>h) h) poN)) (lB (ch ad rfl) au))))))⟩) (lB (tlF ad ad) au)
   (poC (λ_ _ h=>(λh=>h) h) poN)) au)))))))))))))
  (aP [.fact 0 (.one (.s)),.fact 1 (.one (.s))] ⟨Rw.Is 2 (If z k) n,Rw.Is 2 (If y l) m,trivial⟩) aV
def XN (z y:Nat->Int) (n m k l:Nat):List WP:=[Rw 2 (If z k) n,Rw 2 (If y l) m,Rw 2 (If z k) (tl z n),Rw 2 (If y l) (tl y m),Nz (tl z n)]
def XO:List Step:=[cB 69 [0] [oS 2],
   cB 69 [1] [oS 3],bQ [2] [oN 4] (aC 25),bQ [4,.lit (Ai 0)] oT (am .eql)]
def XP:List Out:=[oS 0,oS 1]
theorem XQ  (hm:m<=400000) (hk:k<=100000) (hl:l<=100000) (h1:(tl z n)=0) (hn:n<=400000:=by omega):aj (ph (XN z y n m k l)) prog ⟨119,[0,1],[⟨.one (.lit (.nl)),[]⟩],false⟩:=by
 have hz:=bg z n;have hy:=bg y m;exact adL XP [⟨.one (.lit (.nl)),[]⟩] XO func119 (by kernel_rfl) (lB (iz (z:=z) (n:=n) (k:=k) (F:=(If z k)) ad aV (λ_ _ _ _ g h=>aD.kp h g) rfl) (lB (iz (z:=y) (n:=m) (k:=l) (F:=(If y l)) ad aV (λ_ _ _ _ g h=>aD.kp h g) rfl) (lB (aM (F:=(If z k)) underlying25 ad rfl) (lB (qo ad) au))))
  (aP [.fact 0 (.one (.s)),.fact 1 (.one (.s))] ⟨Rw.Is 2 (If z k) n,Rw.Is 2 (If y l) m,trivial⟩) aV
def XR (z y:Nat->Int) (n m k l:Nat):List WP:=[Rw 2 (If z k) n,Rw 2 (If y l) m,Rw 2 (If z k) (tl z n),Rw 2 (If y l) (tl y m),Nz (tl z n),Nz (tl y m)]
def XS:List Step:=[cB 69 [0] [oS 2],
   cB 69 [1] [oS 3],bQ [2] [oN 4] (aC 25),bQ [4,.lit (Ai 0)] oF (am .eql),bQ [3] [oN 5] (aC 25),bQ [5,.lit (Ai 0)] oT (am .eql)]
def XT:List Out:=[oS 0,oS 1]
theorem XU  (hm:m<=400000) (hk:k<=100000) (hl:l<=100000) (h1:0<(tl z n)) (h2:(tl y m)=0) (hn:n<=400000:=by omega):aj (ph (XR z y n m k l)) prog ⟨119,[0,1],[⟨.one (.lit (.nl)),[]⟩],false⟩:=by
 have hz:=bg z n;have hy:=bg y m;exact adL XT [⟨.one (.lit (.nl)),[]⟩] XS func119 (by kernel_rfl) (lB (iz (z:=z) (n:=n) (k:=k) (F:=(If z k)) ad aV (λ_ _ _ _ g h=>aD.kp h g) rfl) (lB (iz (z:=y) (n:=m) (k:=l) (F:=(If y l)) ad aV (λ_ _ _ _ g h=>aD.kp h g) rfl) (lB (aM (F:=(If z k)) underlying25 ad rfl) (lB (iL ad) (lB (aM (F:=(If y l)) underlying25 ad rfl) (lB (qo ad) au))))))
  (aP [.fact 0 (.one (.s)),.fact 1 (.one (.s))] ⟨Rw.Is 2 (If z k) n,Rw.Is 2 (If y l) m,trivial⟩) aV
def conv (f g:Nat->Int):Nat->Int
 | 0=>f 0*g 0
 | p+1=>f 0*g (p+1)+conv (λx=>f (x+1)) g p
theorem GU:∀(p:Nat) (f g:Nat->Int),conv f g (p+1)=conv f (λx=>g (x+1)) p+f (p+1)*g 0
 | 0,f,g=>rfl
 | p+1,f,g=>by rw [conv,GU p (λx=>f (x+1)) g];simp only [conv];omega
theorem nf:∀(p:Nat) (f g:Nat->Int),conv f g p=conv g f p
 | 0,f,g=>Int.mul_comm _ _
 | p+1,f,g=>by rw [conv,GU p g f,nf p (λx=>f (x+1)) g,Int.mul_comm (f 0)];omega
theorem Eo:∀{p:Nat}{f f' g g':Nat->Int},(∀i,i<=p->f i=f' i)->(∀i,i<=p->g i=g' i)->conv f g p=conv f' g' p
 | 0,_,_,_,_,hf,hg=>by simp only [conv];rw [hf 0 (Nat.le_refl _),hg 0 (Nat.le_refl _)]
 | p+1,_,_,_,_,hf,hg=>by simp only [conv];rw [hf 0 (by omega),hg (p+1) (Nat.le_refl _),Eo (λi _=>hf (i+1) (by omega)) (λi _=>hg i (by omega))]
theorem kJ:∀(p:Nat) (f f' g:Nat->Int),conv (λx=>f x+f' x) g p=conv f g p+conv f' g p
 | 0,f,f',g=>Int.add_mul _ _ _
 | p+1,f,f',g=>by simp only [conv];rw [kJ p,Int.add_mul];omega
theorem io:∀(p:Nat) (c:Int) (f g:Nat->Int),conv (λx=>c*f x) g p=c*conv f g p
 | 0,c,f,g=>Int.mul_assoc _ _ _
 | p+1,c,f,g=>by simp only [conv];rw [io p,Int.mul_add,Int.mul_assoc]
theorem oO:∀(p:Nat) (a b c:Nat->Int),conv (conv a b) c p=conv a (conv b c) p
 | 0,a,b,c=>Int.mul_assoc _ _ _
 | p+1,a,b,c=>by
  have e:(λx=>conv a b (x+1))=λx=>a 0*b (x+1)+conv (λy=>a (y+1)) b x:=rfl
  rw [conv,e,kJ p (λx=>a 0*b (x+1)) (conv (λy=>a (y+1)) b) c,io p (a 0) (λx=>b (x+1)) c,oO p (λy=>a (y+1)) b c];show _=a 0*conv b c (p+1)+conv (λx=>a (x+1)) (conv b c) p
  simp only [conv];rw [Int.mul_add,Int.mul_assoc];omega
theorem GV (L:List Int) (i:Nat):upto L.length (ae L) i=ae L i:=by
 unfold upto;split
 ·rfl
 ·exact (et (by omega)).symm
theorem lC  (h:n<=i):upto n f i=0:=if_neg (by omega)
theorem Bd.qA {A B:Nat} (h:Bd A i) (k:Bd B i):Bd (A+B) (i+1):=by
 unfold Bd at *
 rw [Nat.pow_succ];generalize 4294967296 ^ i=M at *
 omega
def sumTo (f:Nat->Int):Nat->Int
 | 0=>0
 | n+1=>sumTo f n+f n
theorem sumTo_congr {f g:Nat->Int}:∀{n:Nat},(∀i,i<n->f i=g i)->sumTo f n=sumTo g n
 | 0,_=>rfl
 | n+1,h=>by simp only [sumTo];rw [sumTo_congr λi _=>h i (by omega),h n (by omega)]
theorem qC {f:Nat->Int}{n:Nat}:∀{k:Nat},(∀i,n<=i->i<n+k->f i=0)->sumTo f (n+k)=sumTo f n
 | 0,_=>rfl
 | k+1,h=>by rw [show n+(k+1)=(n+k)+1 by omega,sumTo,qC λi h1 _=>h i h1 (by omega),h (n+k) (by omega) (by omega)];omega
theorem GW (f:Nat->Int):∀n,sumTo f (n+1)=f 0+sumTo (λi=>f (i+1)) n
 | 0=>by simp [sumTo]
 | n+1=>by rw [sumTo,GW f n];simp only [sumTo];omega
theorem qD:∀(p:Nat) (f g:Nat->Int),conv f g p=sumTo (λx=>f x*g (p-x)) (p+1)
 | 0,f,g=>by simp [conv,sumTo]
 | p+1,f,g=>by rw [conv,qD p,GW (λx=>f x*g (p+1-x)) (p+1)];refine congrArg (f 0*g (p+1) + ·) (sumTo_congr λi _=>?_);show f (i+1)*g (p-i)=f (i+1)*g (p+1-(i+1));rw [Nat.add_sub_add_right]
theorem GX (z y:Nat->Int) (l p:Nat):∀j,ef z y l j p=sumTo (λx=>if x<=p∧p<x+l then z x*y (p-x) else 0) j
 | 0=>rfl
 | j+1=>by rw [ef,GX z y l p j];rfl
theorem mc  (h:tl z n<=i:=by omega):upto n z i=0:=by
 unfold upto;split
 ·rename_i hi;exact gH z n i h hi
 ·rfl
theorem BN (z y:Nat->Int) (n m p:Nat):ef z y (tl y m) (tl z n) p=conv (upto n z) (upto m y) p:=by
 rw [GX,qD];have hz:=bg z n;have hy:=bg y m;have e1:sumTo (λx=>if x<=p∧p<x+tl y m then z x*y (p-x) else 0) (tl z n)=sumTo (λx=>if x<=p then upto n z x*upto m y (p-x) else 0) (tl z n):=sumTo_congr λx hx=>by
  by_cases h1:x<=p
  ·rw [if_pos h1,gm];by_cases h2:p<x+tl y m
   ·rw [if_pos ⟨h1,h2⟩,gm]
   ·rw [if_neg (λh=>h2 h.2),mc,Int.mul_zero]
  ·rw [if_neg (λh=>h1 h.1),if_neg h1]
 have e2:sumTo (λx=>upto n z x*upto m y (p-x)) (p+1)=sumTo (λx=>if x<=p then upto n z x*upto m y (p-x) else 0) (p+1):=sumTo_congr λx _=>(if_pos (by omega)).symm;rw [e1,e2];rcases Nat.le_total (tl z n) (p+1) with h | h
 ·have:=qC (f:=λx=>if x<=p then upto n z x*upto m y (p-x) else 0) (n:=tl z n) (k:=p+1-tl z n) λ_ h1 _=>by
   rw [mc (h:=h1),Int.zero_mul];split <;> rfl
  rw [show tl z n+(p+1-tl z n)=p+1 by omega] at this;exact this.symm
 ·have:=qC (f:=λx=>if x<=p then upto n z x*upto m y (p-x) else 0) (n:=p+1) (k:=tl z n-(p+1)) λ_ _ _=>if_neg (by omega);rw [show p+1+(tl z n-(p+1))=tl z n by omega] at this;exact this
theorem GY {z y:Nat->Int}{l m:Nat} (hl:0<l):∀{j},j<=m->ef z y l j (m+l-1)=0
 | 0,_=>rfl
 | j+1,h=>by rw [ef,GY hl (by omega),if_neg (by omega)];rfl
theorem BK  (hl:0<l):ef z y l (m+1) (m+l-1)=z m*y (l-1):=by rw [ef,GY hl (Nat.le_refl _),if_pos (by omega),show m+l-1-m=l-1 by omega,Int.zero_add]
def mulL (z:Nat->Int) (n:Nat) (y:Nat->Int) (m:Nat):List Int:=if tl z n=0∨tl y m=0 then [] else mk (tl z n+tl y m-1) (ef z y (tl y m) (tl z n))
theorem lL:∀{f g:Nat->Int},(∀i,f i=0)->∀p,conv f g p=0
 | _,_,h,0=>by simp only [conv];rw [h,Int.zero_mul]
 | _,_,h,p+1=>by simp only [conv];rw [h,Int.zero_mul,Int.zero_add,lL (λi=>h (i+1)) p]
theorem sq {g:Nat->Int}{a b:Nat} (hf:∀i,a<=i->f i=0) (hg:∀i,b<=i->g i=0) (h:a+b<=p+1:=by omega):conv f g p=0:=by
 rw [qD,show p+1=0+(p+1) by omega,qC (n:=0) λi _ hi=>?_]
 ·rfl
 ·rcases Nat.lt_or_ge i a with h1 | h1
  ·rw [hg _ (by omega),Int.mul_zero]
  ·rw [hf _ h1,Int.zero_mul]
theorem GZ (z:Nat->Int) (n:Nat) (y:Nat->Int) (m p:Nat):ae (mulL z n y m) p=conv (upto n z) (upto m y) p:=by
 unfold mulL;split
 ·rename_i h;rw [et (by simp)];rcases h with h | h
  ·exact (lL (λ_=>mc) p).symm
  ·rw [nf];exact (lL (λ_=>mc) p).symm
 ·rename_i h;rw [cU];split
  ·exact BN z y n m p
  ·exact (sq (a:=tl z n) (b:=tl y m) (λ_ hi=>mc (h:=hi)) (λ_ hi=>mc (h:=hi))).symm
theorem DJ  (h1:0<tl z n:=by omega) (h2:0<tl y m:=by omega):(mulL z n y m).length=tl z n+tl y m-1:=by unfold mulL;rw [if_neg (by omega),dc]
theorem XV (z:Nat->Int) (n:Nat) (y:Nat->Int) (m:Nat):(mulL z n y m).length<=n+m:=by
 have:=bg z n;have:=bg y m;unfold mulL;split
 ·simp
 ·rw [dc];omega
theorem DG  (h1:0<tl z n:=by omega) (h2:0<tl y m:=by omega):ae (mulL z n y m) (tl z n+tl y m-2)=z (tl z n-1)*y (tl y m-1):=by unfold mulL;rw [if_neg (by omega),cU,if_pos (by omega)];obtain ⟨a,ha⟩:∃a,tl z n=a+1:=⟨tl z n-1,by omega⟩;have:=BK (z:=z) (y:=y) (l:=tl y m) (m:=a) h2;rw [ha,show a+1+tl y m-2=a+tl y m-1 by omega,this,Nat.add_sub_cancel]
theorem oC (z:Nat->Int) (n:Nat) (y:Nat->Int) (m:Nat):ct (mulL z n y m):=λh=>by
 by_cases h0:tl z n=0∨tl y m=0
 ·unfold mulL at h;rw [if_pos h0] at h;simp at h
 ·rw [DJ,show tl z n+tl y m-1-1=tl z n+tl y m-2 by omega,DG];exact Int.mul_ne_zero (fG z n (by omega)) (fG y m (by omega))
theorem vV {z y:Nat->Int}{l k k' c n:Nat} (hz:∀i,i<n->Bd (z i).natAbs k) (hy:∀i,i<l->Bd (y i).natAbs k'):∀{j},j<=n->j<=c->∀p,Bd (ef z y l j p).natAbs (k+k'+j)
 | 0,_,_,p=>Nat.pow_pos (by omega)
 | j+1,h1,h2,p=>by
  have h3:=vV (c:=c) hz hy (j:=j) (by omega) (by omega) p;rw [ef];have h4:Bd (if j<=p∧p<j+l then z j*y (p-j) else 0).natAbs (k+k'+j):=by
   split
   ·rw [Int.natAbs_mul];exact (Bd.mul (hz j (by omega)) (hy _ (by omega))).more (by omega)
   ·exact Nat.pow_pos (by omega)
  exact (Bd.qA h3 h4).le (Int.natAbs_add_le _ _)
theorem DH {k' c:Nat} (hz:∀i,i<n->Bd (z i).natAbs k) (hy:∀i,i<l->Bd (y i).natAbs k') (h1:j<n) (h2:n<=c) (hi:i<=l) (p:Nat):Bd (eu z y l j i p).natAbs (k+k'+c+1):=by
 have h3:=vV (c:=c) hz hy (j:=j) (by omega) (by omega) p;have h4:Bd (if j<=p∧p<j+i then z j*y (p-j) else 0).natAbs (k+k'+j):=by
  split
  ·rw [Int.natAbs_mul];exact (Bd.mul (hz j h1) (hy _ (by omega))).more (by omega)
  ·exact Nat.pow_pos (by omega)
 exact ((Bd.qA h3 h4).le (Int.natAbs_add_le _ _)).more (by omega)
theorem XW (z:Int):cK z z=0:=by unfold cK;rw [if_neg (by omega),if_pos rfl]
def XX (z:Int) (k l:Nat):List WP:=[Iw z k,Iw z l,Ni (cK z z)]
def XY:List Step:=[cB 113 [0,1] [oN 2],bQ [2,.lit (Ai 0)] oT (am .eql)]
def XZ:List Out:=[oI 0,oI 1]
theorem Yb {z:Int} (hk:k<=400000) (hl:l<=400000):aj (ph (XX z k l)) prog ⟨137,[0,1],oT,false⟩:=adL XZ oT XY func137 (by kernel_rfl) (lB (na iI iI rfl rfl) (lB (cn (op:=.eql) ad (bz (decide_eq_true (XW z)) (by simp))) au))
  (aP [.fact 0 (.agg [.b,.s]),.fact 1 (.agg [.b,.s])] ⟨λ_ _ h=>aD.is h,λ_ _ h=>aD.is h,trivial⟩) aV
theorem Yc {z:Int} (hp:Im Φ p (Iw z k)) (hq:Im Φ q (Iw z l)) (hk:k<=400000:=by omega) (hl:l<=400000:=by omega):aj Φ prog ⟨137,[.fact p,.fact q],oT,false⟩:=
 aU (Yb hk hl) ⟨hp,hq,trivial⟩ ⟨⟨rfl,trivial⟩,trivial⟩
def yr (z:Nat->Int) (n k l:Nat):List WP:=[Rw 2 (If z k) n,Rw 2 (If z l) n,Nz n,Nz n,Nz n]
def Yd (z:Nat->Int) (k l:Nat) (j:Nat):List WP:=[Nz j,Ptr 2 (Iw (z j) k),Iw (z j) k,Ptr 2 (Iw (z j) l),Iw (z j) l,Nz (j+1)]
def Ye:bp:=⟨[0,1,2,6,10,11,12,13,14,15,16],[(.slot 17,.i)],[(.one 0,5)],[.closed (.one (Ai 0))],5,[]⟩
def Hf:List Step:=[bQ [5,4] oT (am .lss),bQ [0,5] [oP 6] (adK 25),bQ [6] [oI 7] (aQ 28),bQ [1,5] [oP 8] (adK 25),bQ [8] [oI 9] (aQ 28),
   cB 137 [7,9] oT,bQ [5,.lit (Ai 1)] [oN 10] (am .add)]
def Yf:List Step:=[bQ [5,4] oF (am .lss)]
def Yg:List Step:=[bQ [0] [oN 2] (aC 25),bQ [1] [oN 3] (aC 25),bQ [2,3] oF (am .neq),bQ [0] [oN 4] (aC 25),.loop Ye [(Hf,[.frm 10])] Yf]
def Yh:List Out:=[oS 0,oS 1,⟨.one (.lit (.fn 137)),[]⟩]
theorem Yi  (hn:n<=1000000) (hk:k<=400000) (hl:l<=400000):aj (ph (yr z n k l)) prog ⟨136,[0,1,.lit (.fn 137)],oT,false⟩:=adL Yh oT Yg func136 (by kernel_rfl) (lB (aM (F:=(If z k)) underlying25 ad rfl) (lB (aM (F:=(If z l)) underlying25 ad rfl) (lB (eJ (op:=.neq) ad ad (bz (decide_eq_false (λh=>h rfl)) (by simp))) (lB (aM (F:=(If z k)) underlying25 ad rfl) (bN (counted n (λj=>ph (yr z n k l ++ Yd z k l j)) (λ_=>0) (λ_ p hp=>bO (show p<(yr z n k l).length from hp)) ⟨λ_=>rfl,trivial⟩ (λj _=>by
   skip
   exact ⟨(Hf,[.frm 10]),rfl,⟨ad,trivial⟩,(lB (bK ad ad) (lB (bw (i:=j) (F:=(If z k)) underlying25 ad ad rfl) (lB (bT (sz:=2) (F:=Iw (z j) k) ad (λ_ _ _ g h=>aD.kp h g) (λ_ _ h=>aD.is h) rfl) (lB (bw (i:=j) (F:=(If z l)) underlying25 ad ad rfl) (lB (bT (sz:=2) (F:=Iw (z j) l) ad (λ_ _ _ g h=>aD.kp h g) (λ_ _ h=>aD.is h) rfl) (lB (Yc iI iI) (lB (ch ad rfl) au)))))))⟩) (lB (tlF ad ad) au)
   poN) au)))))
  (aP [.fact 0 (.one (.s)),.fact 1 (.one (.s)),.lit (.fn 137)] ⟨Rw.Is 2 (If z k) n,Rw.Is 2 (If z l) n,(λ_ h=>by cases h),trivial⟩) aV
theorem Yj  (hp:Im Φ p (Rw 2 (If z k) n)) (hq:Im Φ q (Rw 2 (If y l) m)) (h:n=m) (hs:∀i,i<n->z i=y i) (hn:n<=1000000:=by omega) (hk:k<=400000:=by omega) (hl:l<=400000:=by omega):aj Φ prog ⟨136,[.fact p,.fact q,.lit (.fn 137)],oT,false⟩:=by subst h;exact aU (Yi hn hk hl) ⟨hp,λw v h=>Rw.to (F:=λi w v=>aD w v (y i) l) (G:=λi w v=>aD w v (z i) l) (hq w v h) λi _ _ hi h=>by rw [hs i hi];exact h,rfl,trivial⟩ ⟨⟨rfl,trivial⟩,trivial⟩
def Yk (z y:Nat->Int) (n m k l:Nat):List WP:=[Rw 2 (If z k) n,Rw 2 (If y l) m,Rw 2 (If z k) (tl z n),Rw 2 (If y l) (tl y m)]
def Ym:List Step:=[cB 69 [0] [oS 2],
   cB 69 [1] [oS 3],
   cB 136 [2,3,.lit (.fn 137)] oT]
def Yn:List Out:=[oS 0,oS 1]
theorem Yo  (hn:n<=1000000) (hm:m<=1000000) (hk:k<=400000) (hl:l<=400000) (hs:tl z n=tl y m∧∀i,i<tl z n->z i=y i):aj (ph (Yk z y n m k l)) prog ⟨100,[0,1],oT,false⟩:=by
 have hz:=bg z n;exact adL Yn oT Ym func100 (by kernel_rfl) (lB (iz (z:=z) (n:=n) (k:=k) (F:=(If z k)) ad aV (λ_ _ _ _ g h=>aD.kp h g) rfl) (lB (iz (z:=y) (n:=m) (k:=l) (F:=(If y l)) ad aV (λ_ _ _ _ g h=>aD.kp h g) rfl) (lB (Yj (Rw.To 2 (If z k) (tl z n) (λ_ _ _ _ h=>h)) (Rw.To 2 (If y l) (tl y m) (λ_ _ _ _ h=>h)) hs.1 hs.2) au)))
  (aP [.fact 0 (.one (.s)),.fact 1 (.one (.s))] ⟨Rw.Is 2 (If z k) n,Rw.Is 2 (If y l) m,trivial⟩) aV
theorem Hi  (h:∀i,upto n z i=upto m y i):tl z n<=tl y m:=by
 rcases Nat.lt_or_ge (tl y m) (tl z n) with h1 | h1
 ·have h2:=fG z n (by omega);have h3:=h (tl z n-1);have h4:=bg z n;rw [gm,mc (z:=y) (n:=m)] at h3;exact absurd h3 h2
 ·exact h1
theorem Yp  (h:∀i,upto n z i=upto m y i):tl z n=tl y m∧∀i,i<tl z n->z i=y i:=by
 have e:=Nat.le_antisymm (Hi h) (Hi λi=>(h i).symm);refine ⟨e,λi hi=>?_⟩;have h1:=h i;have h2:=bg z n;have h3:=bg y m
 rwa [gm,gm] at h1
section
variable {x c:Nat}{L:List Int}
theorem Hj (hp:Im Φ p (Rw 2 (If z k) n)) (hq:Im Φ q (Rw 2 (If y l) m)) (hn:n<=1000000) (hm:m<=1000000) (hs:∀i,upto n z i=upto m y i) (hk:k<=400000:=by omega) (hl:l<=400000:=by omega):aj Φ prog ⟨100,[.fact p,.fact q],oT,false⟩:=
 aU (Yo hn hm hk hl (Yp hs)) ⟨hp,hq,trivial⟩ ⟨⟨rfl,trivial⟩,trivial⟩
theorem wy (hp:Im Φ p (Rw 2 (If z k) n)) (hx:Φ x=Rw 2 (Nf (ae L) k) L.length) (hL:aw (mk n z)=L) (hn:n<=1000000:=by omega) (hk:k<=500000:=by omega):aj Φ prog ⟨67,[.fact p],[oS x],false⟩:=
 aU (Xv hn hk) ⟨hp,trivial⟩ ⟨⟨rfl,⟨rfl,rfl,λ_ _ h=>hx▸hL▸h⟩,trivial⟩,trivial⟩
theorem SA (hp:Im Φ p (Rw 2 (If z k) n)) (hq:Im Φ q (Rw 2 (If y l) m)) (hx:Φ x=Rw 2 (Nf (ae L) (k+l+1)) L.length) (hn:n<=1000000) (hm:m<=1000000) (hk:k<=200000) (hl:l<=200000) (hL:aw (mk (max n m) (λi=>upto n z i+upto m y i))=L):aj Φ prog ⟨118,[.fact p,.fact q],[oS x],false⟩:=
 aU (Xz hn hm hk hl) ⟨hp,hq,trivial⟩ ⟨⟨rfl,⟨rfl,rfl,λ_ _ h=>hx▸hL▸h⟩,trivial⟩,trivial⟩
theorem SB (hp:Im Φ p (Rw 2 (If z k) n)) (hq:Im Φ q (Rw 2 (If y l) m)) (hx:Φ x=Rw 2 (Nf (ae L) (k+l+1)) L.length) (hn:n<=1000000) (hm:m<=1000000) (hk:k<=200000) (hl:l<=200000) (hL:aw (mk (max n m) (λi=>upto n z i-upto m y i))=L):aj Φ prog ⟨47,[.fact p,.fact q],[oS x],false⟩:=
 aU (XD hn hm hk hl) ⟨hp,hq,trivial⟩ ⟨⟨rfl,⟨rfl,rfl,λ_ _ h=>hx▸hL▸h⟩,trivial⟩,trivial⟩
theorem Hp {v:Value} (h:Rw 2 (If z k) n w v) (i:Nat) (hi:i<n):Bd (z i).natAbs k:=by obtain ⟨_,_,_,_,h1⟩:=h;obtain ⟨_,_,_,l,_,_,h2⟩:=h1 i hi;exact aD.bd' h2
theorem Hz {X:Nat->Prop}{us:List Value} (hx:Φ x=Rw 2 (Nf (ae L) K) L.length) (hL:L = []) (h:cG Φ X w [⟨.one (.lit .nl),[]⟩] us):cG Φ X w [oS x] us:=by
 subst hL
 match us,h with
 | [u],h=>
  obtain rfl:u = .slice none 0 0:=h.1.1.1;exact cP ⟨⟨_,_,_,rfl⟩,λ_ h=>by cases h⟩ hx λw1 _=>Rw.nil 2 _ w1
theorem Sz (hp:Im Φ p (Rw 2 (If z k) n)) (hq:Im Φ q (Rw 2 (If y l) m)) (hx:Φ x=Rw 2 (Nf (ae L) (k+l+c+1)) L.length) (hn:n<=c) (hm:m<=400000) (hc:c<=1000) (hk:k<=100000) (hl:l<=100000) (hL:mulL z n y m=L):aj Φ prog ⟨119,[.fact p,.fact q],[oS x],false⟩:=λX w vs hX ha=>by
 match vs,ha with
 | [v,u],ha=>
  have hz:=Hp (hp _ _ (ha.1 w (Off.refl _ _)));have hy:=Hp (hq _ _ (ha.2.1 w (Off.refl _ _)));have hzl:=bg z n;have hyl:=bg y m;rcases Nat.eq_zero_or_pos (tl z n) with h1 | h1
  ·exact (aU (outs:=[⟨.one (.lit .nl),[]⟩]) (Φ:=Φ) (ar:=[.fact p,.fact q]) (XQ (z:=z) (y:=y) (n:=n) (m:=m) (k:=k) (l:=l) hm hk hl h1) ⟨hp,hq,trivial⟩ ⟨⟨rfl,trivial⟩,trivial⟩ X w [v,u] hX ha).mono λe w' ⟨hg,us,he,h2⟩=>⟨hg,us,he,Hz hx (by rw [<- hL,mulL,if_pos (.inl h1)]) h2⟩
  rcases Nat.eq_zero_or_pos (tl y m) with h2 | h2
  ·exact (aU (outs:=[⟨.one (.lit .nl),[]⟩]) (Φ:=Φ) (ar:=[.fact p,.fact q]) (XU (z:=z) (y:=y) (n:=n) (m:=m) (k:=k) (l:=l) hm hk hl h1 h2) ⟨hp,hq,trivial⟩ ⟨⟨rfl,trivial⟩,trivial⟩ X w [v,u] hX ha).mono λe w' ⟨hg,us,he,h2'⟩=>⟨hg,us,he,Hz hx (by rw [<- hL,mulL,if_pos (.inr h2)]) h2'⟩
  ·refine aU (Φ:=Φ) (ar:=[.fact p,.fact q]) (outs:=[oS x]) (XM (z:=z) (y:=y) (n:=n) (m:=m) (k:=k) (l:=l) (K:=k+l+c+1) (by omega) hm hk hl (by omega) h1 h2 λ_ i p hj hi=>DH (n:=tl z n) (l:=tl y m) (c:=c) (λi _=>hz i (by omega)) (λi _=>hy i (by omega)) hj (by omega) hi p) ⟨hp,hq,trivial⟩ ⟨⟨rfl,⟨rfl,rfl,λw v h=>?_⟩,trivial⟩,trivial⟩ X w [v,u] hX ha;rw [hx,<- hL,mulL,if_neg (by omega),dc];exact Rw.to (aA.rw (e:=28) (F:=λi w v=>ak w v (ef z y (tl y m) (tl z n) i) (k+l+c+1)) h) λ_ _ _ hi h=>h.eq (by rw [cU,if_pos hi])
end
end Go.Proofs.YtlmanbjkkjfjgaaGreat.Sym
