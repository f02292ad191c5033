/- poly.each and both (Norm, Neg, Add, Sub), Mul. Products of polynomials as sums of products: they ask for no order, nor for brackets. poly.Same; contracts of Norm, Neg, Add, Sub, Mul. -/
import Derived.Test.YtbokonbbokhjlaaGreatPolX
set_option maxRecDepth 100000
namespace Go.Proofs.YtbokonbbokhjlaaGreat.Sym
open Go.RowKit
theorem pK {Φ:PH}{p q x i j:Nat}{z y t:Int} (hp:∀w v,Φ p w v->aC w v z i) (hq:∀w v,Φ q w v->aC w v y j) (hx:Φ x=Nw t (i+j+1)) (hi:i+j<=1000000) (ht:z-y=t):ai Φ Tryz.prog ⟨94,[.fact p,.fact q],[⟨iS,[(0,0,x)]⟩],false⟩:=
 gL fun _ _ _ _ h0 h1=>((Kc (hp _ _ (get h0)) (hq _ _ (get h1)) hi).mono fun _ _ h=>h.got).mono fun _ _ h=>jw (ht▸hx) h
def gT (z y:Nat->Int) (l:Nat):Nat->Nat->Int
 | 0,_=>0
 | j+1,p=>gT z y l j p+(if j<=p∧p<j+l then z j*y (p-j) else 0)
def dP (z y:Nat->Int) (l:Nat) (j i p:Nat):Int:=gT z y l j p+(if j<=p∧p<j+i then z j*y (p-j) else 0)
def vw (z:Nat->Int) (n k:Nat):List WP:=[Rw 2 (If z k) n,Nz n,ah 2 52 (Nf (upto 0 z) k) n,Nz n,ah 2 52 (Nf (upto n z) k) n,Rw 2 (Nf (upto n z) k) (tl (upto n z) n)]
def Sf (z:Nat->Int) (n k:Nat) (j:Nat):List WP:=[Nz j,ah 2 52 (Nf (upto j z) k) n,fun _ _=>True,Ptr 2 (Iw (z j) k),Iw (z j) k,Nw (z j) k,At 2,Ptr 2 (Nw ((upto j z) j) k),fun w v=>ah 2 52 (fun ι w v=>af w v ((upto (j+1) z) ι) k) n w v,Nz (j+1)]
def Dq:bg:=⟨[0,1,4,8,9,10,11,12],[(.slot 13,.i),(.slot 5,.s)],[(.one 0,6),(.one 1,.Ru [1] 7),(.one 1,.lo 1)],[.closed (.one (.ci .i64 0)),.frm 2,.frm 0],6,[(7,4)]⟩
def Dr:List Step:=[bQ [.fact 6,.fact 3] oT (ak .lss),
   bQ [.fact 0,.fact 6] [oP 9] (aG 28),
   bQ [.fact 9] [oI 10] (aM 52),
   .base ⟨69,[.fact 10],[oI 11],false⟩,
   .base ⟨0,[.fact 7,.fact 6],[oP 13],.joint [1] 12 (aG 28)⟩,
   .base ⟨0,[.fact 7,.fact 6,.any,.fact 11],[oS 14],.put [] 1 0 12 (dV 52 (.tmp 18) (.tmp 19))⟩,
   bQ [.fact 6,.lit (.ci .i64 1)] [oN 15] (ak .add)]
def Sg:List Step:=[bQ [.fact 6,.fact 3] oF (ak .lss)]
def Sj:List Step:=[bQ [.fact 0] [oN 1] (aD 28),
   .base ⟨0,[.fact 1,.fact 1],[oS 2],.loose [] 1 0 (fp 28)⟩,
   bQ [.fact 0] [oN 3] (aD 28),
   .loop Dq [(Dr,[.frm 15,.frm 14,.frm 0])] Sg,
   .base ⟨60,[.fact 4],[oS 5],.cE [1] false⟩]
def Sm:List Out:=[oS 0,⟨.one (.lit (.fn 69)),[]⟩]
theorem Sn {z:Nat->Int}{n k:Nat} (hn:n<=1000000) (hk:k<=500000):ai (ph (vw z n k)) Tryz.prog ⟨67,[.fact 0,.lit (.fn 69)],[oS 5],false⟩:=by
 skip
 exact aV Sm [oS 5] Sj Tryz.func67 (by kernel_rfl)
  (lB (aP (F:=(If z k)) Tryz.underlying28 ad rfl)
   (lB (gZ (n:=n) (F:=(Nf (upto 0 z) k)) ad (by omega) (fun i w=>af.zero w k) rfl)
   (lB (aP (F:=(If z k)) Tryz.underlying28 ad rfl)
   (bz (counted n (fun j=>ph (vw z n k ++ Sf z n k j)) (fun _=>0) (fun j p hp=>bB (show p<(vw z n k).length from hp)) ⟨fun _=>rfl,ad,aS,trivial⟩ (fun j hj=>by
   skip
   exact ⟨(Dr,[.frm 15,.frm 14,.frm 0]),rfl,⟨ad,ad,aS,trivial⟩,(lB (cU ad ad)
   (lB (bZ (i:=j) (F:=(If z k)) Tryz.underlying28 (by kernel_rfl) ad ad (by omega) rfl)
   (lB (dW (sz:=2) (F:=Iw (z j) k) (by kernel_rfl) (by kernel_rfl) ad (fun _ _ _ g h=>aC.kp h g) (fun _ _ h=>aC.is h) rfl)
   (lB (sC iI rfl (by omega) rfl)
   (lB (bI (i:=j) (sz:=2) (n:=n) (F:=(Nf (upto j z) k)) Tryz.underlying28 (by kernel_rfl) (fun _ _ h=>ah.arr h) ad (by omega) rfl rfl)
   (lB (fo (i:=j) (n:=n) (F:=(fun ι w v=>af w v ((upto j z) ι) k)) (F':=(fun ι w v=>af w v ((upto (j+1) z) ι) k)) (G:=Nw (z j) k) (.tmp 18) (.tmp 19) (by kernel_rfl) ad ad (by omega) ad rfl (fun _ _ h=>af.cells h) (fun _ _ _ _ g h=>af.kp h g) (fun _ _ _ g h=>af.kp h g) (fun i w v hi h=>by rw [ms hi];exact h) (fun w v h=>h.eq (mt j z).symm) rfl)
   (lB (cN ad (by omega) rfl (by omega) (by omega))
   aw)))))))⟩)
   (lB (tlF ad ad)
   aw)
   (fun q hq w v h=>by
    simp only [Dq,List.mem_cons,List.not_mem_nil,or_false] at hq
    rcases hq with rfl
    ·exact (fun h=>h) h)) (lB (de [1] (gS (z:=(upto n z)) (n:=n) (k:=k) (F:=(Nf (upto n z) k)) (fun _ _ h=>ah.rw h) (fun _ _ _ h=>af.i h) (fun _ _ _ _ g h=>af.kp h g) rfl (by omega) (by omega)))
   aw)))))
  (aL [.fact 0 (.one (.s)),.lit (.fn 69)] ⟨Rw.Is 2 (If z k) n,(fun _ h=>by cases h),trivial⟩) bc
def vz (z y:Nat->Int) (n m k l:Nat):List WP:=[Rw 2 (If z k) n,Rw 2 (If y l) m,Nz n,Nz m,Nz (max n m),fun w v=>ah 2 52 (fun ι w v=>af w v ((upto 0 (fun i=>upto n z i-upto m y i)) ι) (k+l+1)) (max n m) w v,b9 (max n m),Nz (max n m),fun w v=>ah 2 52 (fun ι w v=>af w v ((upto (max n m) (fun i=>upto n z i-upto m y i)) ι) (k+l+1)) (max n m) w v,fun w v=>Rw 2 (fun ι w v=>af w v ((upto (max n m) (fun i=>upto n z i-upto m y i)) ι) (k+l+1)) (tl (upto (max n m) (fun i=>upto n z i-upto m y i)) (max n m)) w v]
def So (z y:Nat->Int) (n m k l:Nat) (j:Nat):List WP:=[Nz j,fun w v=>ah 2 52 (fun ι w v=>af w v ((upto j (fun i=>upto n z i-upto m y i)) ι) (k+l+1)) (max n m) w v,fun _ _=>True,Iw (upto n z j) k,Iw (upto m y j) l,Nw ((upto n z j)-(upto m y j)) (k+l+1),At 2,Ptr 2 (Nw ((upto j (fun i=>upto n z i-upto m y i)) j) (k+l+1)),fun w v=>ah 2 52 (fun ι w v=>af w v ((upto (j+1) (fun i=>upto n z i-upto m y i)) ι) (k+l+1)) (max n m) w v,Nz (j+1)]
def Ds:bg:=⟨[0,1,2,6,9,10,11,12,13,14,15,16],[(.slot 17,.i),(.slot 7,.s)],[(.one 0,10),(.one 1,.Ru [1] 11),(.one 1,.lo 1)],[.closed (.one (.ci .i64 0)),.frm 5,.frm 0],10,[(11,8)]⟩
def Dt:List Step:=[bQ [.fact 10,.fact 7] oT (ak .lss),
   .base ⟨70,[.fact 0,.fact 10],[oI 13],false⟩,
   .base ⟨70,[.fact 1,.fact 10],[oI 14],false⟩,
   .base ⟨94,[.fact 13,.fact 14],[oI 15],false⟩,
   .base ⟨0,[.fact 11,.fact 10],[oP 17],.joint [1] 16 (aG 28)⟩,
   .base ⟨0,[.fact 11,.fact 10,.any,.fact 15],[oS 18],.put [] 1 0 16 (dV 52 (.tmp 20) (.tmp 21))⟩,
   bQ [.fact 10,.lit (.ci .i64 1)] [oN 19] (ak .add)]
def Sp:List Step:=[bQ [.fact 10,.fact 7] oF (ak .lss)]
def Ss:List Step:=[bQ [.fact 0] [oN 2] (aD 28),
   bQ [.fact 1] [oN 3] (aD 28),
   bQ [.fact 2,.fact 3] [oN 4] (gm .max),
   .base ⟨0,[.fact 4,.fact 4],[oS 5],.loose [] 1 0 (fp 28)⟩,
   .freed (.one (.s 7 0)) 5 6,
   bQ [.fact 6] [oN 7] (aD 28),
   .loop Ds [(Dt,[.frm 19,.frm 18,.frm 0])] Sp,
   .base ⟨60,[.fact 8],[oS 9],.cE [1] false⟩]
def Su:List Out:=[oS 0,oS 1,⟨.one (.lit (.fn 94)),[]⟩]
theorem Sv {z y:Nat->Int}{n m k l:Nat} (hn:n<=1000000) (hm:m<=1000000) (hk:k<=200000) (hl:l<=200000):ai (ph (vz z y n m k l)) Tryz.prog ⟨76,[.fact 0,.fact 1,.lit (.fn 94)],[oS 9],false⟩:=by
 skip
 exact aV Su [oS 9] Ss Tryz.func76 (by kernel_rfl)
  (lB (aP (F:=(If z k)) Tryz.underlying28 ad rfl)
   (lB (aP (F:=(If y l)) Tryz.underlying28 ad rfl)
   (lB (R7 ad ad (by split <;> omega) rfl)
   (lB (gZ (n:=(max n m)) (F:=(fun ι w v=>af w v ((upto 0 (fun i=>upto n z i-upto m y i)) ι) (k+l+1))) ad (by omega) (fun i w=>af.zero w (k+l+1)) rfl)
   (cV (cW (e:=52) (sz:=2) (n:=(max n m)) (F:=(fun ι w v=>af w v ((upto 0 (fun i=>upto n z i-upto m y i)) ι) (k+l+1))) ad rfl)
   (lB (ce (n:=(max n m)) Tryz.underlying28 ad rfl)
   (bz (counted (max n m) (fun j=>ph (vz z y n m k l ++ So z y n m k l j)) (fun _=>0) (fun j p hp=>bB (show p<(vz z y n m k l).length from hp)) ⟨fun _=>rfl,ad,aS,trivial⟩ (fun j hj=>by
   skip
   exact ⟨(Dt,[.frm 19,.frm 18,.frm 0]),rfl,⟨ad,ad,aS,trivial⟩,(lB (cU ad ad)
   (lB (vC (z:=z) (n:=n) (i:=j) (Rw.To 2 (If z k) n (fun _ _ _ _ h=>h)) ad rfl (by omega) (fun h=>(fD h).symm) (fun h=>if_neg (by omega)))
   (lB (vC (z:=y) (n:=m) (i:=j) (Rw.To 2 (If y l) m (fun _ _ _ _ h=>h)) ad rfl (by omega) (fun h=>(fD h).symm) (fun h=>if_neg (by omega)))
   (lB (pK iI iI rfl (by omega) rfl)
   (lB (bI (i:=j) (sz:=2) (n:=(max n m)) (F:=(fun ι w v=>af w v ((upto j (fun i=>upto n z i-upto m y i)) ι) (k+l+1))) Tryz.underlying28 (by kernel_rfl) (fun _ _ h=>ah.arr h) ad (by omega) rfl rfl)
   (lB (fo (i:=j) (n:=(max n m)) (F:=(fun ι w v=>af w v ((upto j (fun i=>upto n z i-upto m y i)) ι) (k+l+1))) (F':=(fun ι w v=>af w v ((upto (j+1) (fun i=>upto n z i-upto m y i)) ι) (k+l+1))) (G:=Nw ((upto n z j)-(upto m y j)) (k+l+1)) (.tmp 20) (.tmp 21) (by kernel_rfl) ad ad (by omega) ad rfl (fun _ _ h=>af.cells h) (fun _ _ _ _ g h=>af.kp h g) (fun _ _ _ g h=>af.kp h g) (fun i w v hi h=>by rw [ms hi];exact h) (fun w v h=>h.eq (mt j (fun i=>upto n z i-upto m y i)).symm) rfl)
   (lB (cN ad (by omega) rfl (by omega) (by omega))
   aw)))))))⟩)
   (lB (tlF ad ad)
   aw)
   (fun q hq w v h=>by
    simp only [Ds,List.mem_cons,List.not_mem_nil,or_false] at hq
    rcases hq with rfl
    ·exact (fun h=>h) h)) (lB (de [1] (gS (z:=(upto (max n m) (fun i=>upto n z i-upto m y i))) (n:=(max n m)) (k:=(k+l+1)) (F:=(fun ι w v=>af w v ((upto (max n m) (fun i=>upto n z i-upto m y i)) ι) (k+l+1))) (fun _ _ h=>ah.rw h) (fun _ _ _ h=>af.i h) (fun _ _ _ _ g h=>af.kp h g) rfl (by omega) (by omega)))
   aw))))))))
  (aL [.fact 0 (.one (.s)),.fact 1 (.one (.s)),.lit (.fn 94)] ⟨Rw.Is 2 (If z k) n,Rw.Is 2 (If y l) m,(fun _ h=>by cases h),trivial⟩) bc
section
variable {Φ:PH}{p q x n m k l:Nat}{z y:Nat->Int}{L:List Int}
theorem Sw (hp:∀w v,Φ p w v->Rw 2 (If z k) n w v) (hx:Φ x=Rw 2 (Nf (ae L) k) L.length) (hn:n<=1000000) (hk:k<=500000) (hL:be (mk n z)=L):ai Φ Tryz.prog ⟨67,[.fact p,.lit (.fn 69)],[oS x],false⟩:=
 aW (Sn hn hk) ⟨hp,rfl,trivial⟩ ⟨⟨rfl,⟨rfl,rfl,fun _ _ h=>hx▸hL▸vD h⟩,trivial⟩,trivial⟩
theorem Sx (hp:∀w v,Φ p w v->Rw 2 (If z k) n w v) (hq:∀w v,Φ q w v->Rw 2 (If y l) m w v) (hx:Φ x=Rw 2 (Nf (ae L) (k+l+1)) L.length) (hn:n<=1000000) (hm:m<=1000000) (hk:k<=200000) (hl:l<=200000) (hL:be (mk (max n m) (fun i=>upto n z i-upto m y i))=L):ai Φ Tryz.prog ⟨76,[.fact p,.fact q,.lit (.fn 94)],[oS x],false⟩:=
 aW (Sv hn hm hk hl) ⟨hp,hq,rfl,trivial⟩ ⟨⟨rfl,⟨rfl,rfl,fun _ _ h=>hx▸hL▸vD h⟩,trivial⟩,trivial⟩
end
def Sy (z:Nat->Int) (n k:Nat):List WP:=[Rw 2 (If z k) n,Rw 2 (Nf (ae (be (mk n z))) k) ((be (mk n z)).length)]
def Sz:List Step:=[.base ⟨67,[.fact 0,.lit (.fn 69)],[oS 1],false⟩]
def SA:List Out:=[oS 0]
theorem SB {z:Nat->Int}{n k:Nat} (hn:n<=1000000) (hk:k<=500000):ai (ph (Sy z n k)) Tryz.prog ⟨112,[.fact 0],[oS 1],false⟩:=by
 skip
 exact aV SA [oS 1] Sz Tryz.func112 (by kernel_rfl)
  (lB (Sw (Rw.To 2 (If z k) n (fun _ _ _ _ h=>h)) rfl (by omega) (by omega) rfl)
   aw)
  (aL [.fact 0 (.one (.s))] ⟨Rw.Is 2 (If z k) n,trivial⟩) bc
def SC (z y:Nat->Int) (n m k l:Nat):List WP:=[Rw 2 (If z k) n,Rw 2 (If y l) m,fun w v=>Rw 2 (fun ι w v=>af w v ((ae (be (mk (max n m) (fun i=>upto n z i-upto m y i)))) ι) (k+l+1)) ((be (mk (max n m) (fun i=>upto n z i-upto m y i))).length) w v]
def SD:List Step:=[.base ⟨76,[.fact 0,.fact 1,.lit (.fn 94)],[oS 2],false⟩]
def SE:List Out:=[oS 0,oS 1]
theorem SF {z y:Nat->Int}{n m k l:Nat} (hn:n<=1000000) (hm:m<=1000000) (hk:k<=200000) (hl:l<=200000):ai (ph (SC z y n m k l)) Tryz.prog ⟨57,[.fact 0,.fact 1],[oS 2],false⟩:=by
 skip
 exact aV SE [oS 2] SD Tryz.func57 (by kernel_rfl)
  (lB (Sx (Rw.To 2 (If z k) n (fun _ _ _ _ h=>h)) (Rw.To 2 (If y l) m (fun _ _ _ _ h=>h)) rfl (by omega) (by omega) (by omega) (by omega) rfl)
   aw)
  (aL [.fact 0 (.one (.s)),.fact 1 (.one (.s))] ⟨Rw.Is 2 (If z k) n,Rw.Is 2 (If y l) m,trivial⟩) bc
section
variable {z y:Nat->Int}{l j i p:Nat}
theorem SG:dP z y l j 0 p=gT z y l j p:=by
 unfold dP
 rw [if_neg (by omega)];omega
theorem SH (h:p≠j+i):dP z y l j (i+1) p=dP z y l j i p:=by
 unfold dP
 split <;> split <;> first | rfl | omega
theorem SI:dP z y l j i (j+i)+z j*y i=dP z y l j (i+1) (j+i):=by
 unfold dP
 rw [if_neg (by omega),if_pos (by omega),show j+i-j=i by omega];omega
end
def oG (z y:Nat->Int) (n m k l K:Nat):List WP:=[Rw 2 (If z k) n,Rw 2 (If y l) m,Rw 2 (If z k) (tl z n),Rw 2 (If y l) (tl y m),Nz (tl z n),Nz (tl y m),Nz (tl z n),Nz (tl y m),Nz ((tl z n)+(tl y m)),Nz ((tl z n)+(tl y m)-1),ah 2 52 (Nf (gT z y (tl y m) 0) K) ((tl z n)+(tl y m)-1),Nz (tl z n),ah 2 52 (Nf (gT z y (tl y m) (tl z n)) K) ((tl z n)+(tl y m)-1)]
def SJ (z y:Nat->Int) (n m k l K:Nat) (j i:Nat):List WP:=[Nz i,ah 2 52 (Nf (dP z y (tl y m) j i) K) ((tl z n)+(tl y m)-1),fun _ _=>True,Ptr 2 (Iw (y i) l),Iw (y i) l,Nz (j+i),Nz (j+i),At 2,Ptr 2 (Nw ((dP z y (tl y m) j i) (j+i)) K),Nw ((dP z y (tl y m) j i) (j+i)) K,Nw ((z j)*(y i)) (k+l),Nw (((dP z y (tl y m) j i) (j+i))+((z j)*(y i))) (K+(k+l)+1),At 2,Ptr 2 (Nw ((dP z y (tl y m) j i) (j+i)) K),fun w v=>ah 2 52 (fun ι w v=>af w v ((dP z y (tl y m) j (i+1)) ι) K) ((tl z n)+(tl y m)-1) w v,Nz (i+1)]
def Du:bg:=⟨[0,1,4,6,7,10,11,12,13,14,15,16,17,18,19,20,21,22,23,24,25,26,27,28,29,30,31,32,33,34,35,36,37],[(.slot 38,.i),(.slot 5,.s)],[(.one 0,21),(.one 1,.Ru [1] 22),(.one 1,.lo 1)],[.closed (.one (.ci .i64 0)),.frm 14,.frm 0],21,[(22,19)]⟩
def Dx:List Step:=[bQ [.fact 21,.fact 18] oT (ak .lss),
   bQ [.fact 3,.fact 21] [oP 24] (aG 28),
   bQ [.fact 24] [oI 25] (aM 52),
   bQ [.fact 13,.fact 21] [oN 26] (ak .add),
   bQ [.fact 13,.fact 21] [oN 27] (ak .add),
   .base ⟨0,[.fact 22,.fact 27],[oP 29],.joint [1] 28 (aG 28)⟩,
   .base ⟨0,[.fact 29],[oI 30],.iK [1] (aM 52)⟩,
   .base ⟨63,[.fact 17,.fact 25],[oI 31],false⟩,
   .base ⟨62,[.fact 30,.fact 31],[oI 32],.cE [1] false⟩,
   .base ⟨0,[.fact 22,.fact 26],[oP 34],.joint [1] 33 (aG 28)⟩,
   .base ⟨0,[.fact 22,.fact 26,.any,.fact 32],[oS 35],.put [] 1 0 33 (dV 52 (.tmp 43) (.tmp 46))⟩,
   bQ [.fact 21,.lit (.ci .i64 1)] [oN 36] (ak .add)]
def SK:List Step:=[bQ [.fact 21,.fact 18] oF (ak .lss)]
def vE (z y:Nat->Int) (n m k K:Nat) (j:Nat):List WP:=[Nz j,ah 2 52 (Nf (gT z y (tl y m) j) K) ((tl z n)+(tl y m)-1),fun _ _=>True,Ptr 2 (Iw (z j) k),Iw (z j) k,Nz (tl y m),ah 2 52 (Nf (dP z y (tl y m) j (tl y m)) K) ((tl z n)+(tl y m)-1),Nz (j+1)]
def Dy:bg:=⟨[0,1,4,10,11,12,13,14,15,16,17,18,19,20,21,22,23,24,25,26,27,28,29,30],[(.slot 31,.i),(.slot 5,.s)],[(.one 0,13),(.one 1,.Ru [1] 14),(.one 1,.lo 1)],[.closed (.one (.ci .i64 0)),.frm 10,.frm 0],13,[(14,12)]⟩
def Dz:List Step:=[bQ [.fact 13,.fact 11] oT (ak .lss),
   bQ [.fact 2,.fact 13] [oP 16] (aG 28),
   bQ [.fact 16] [oI 17] (aM 52),
   bQ [.fact 3] [oN 18] (aD 28),
   .loop Du [(Dx,[.frm 36,.frm 35,.frm 0])] SK,
   bQ [.fact 13,.lit (.ci .i64 1)] [oN 20] (ak .add)]
def SL:List Step:=[bQ [.fact 13,.fact 11] oF (ak .lss)]
def SM:List Step:=[.base ⟨60,[.fact 0],[oS 2],false⟩,
   .base ⟨60,[.fact 1],[oS 3],false⟩,
   bQ [.fact 2] [oN 4] (aD 28),
   bQ [.fact 4,.lit (.ci .i64 0)] oF (ak .eql),
   bQ [.fact 3] [oN 5] (aD 28),
   bQ [.fact 5,.lit (.ci .i64 0)] oF (ak .eql),
   bQ [.fact 2] [oN 6] (aD 28),
   bQ [.fact 3] [oN 7] (aD 28),
   bQ [.fact 6,.fact 7] [oN 8] (ak .add),
   bQ [.fact 8,.lit (.ci .i64 1)] [oN 9] (ak .sub),
   .base ⟨0,[.fact 9,.fact 9],[oS 10],.loose [] 1 0 (fp 28)⟩,
   bQ [.fact 2] [oN 11] (aD 28),
   .loop Dy [(Dz,[.frm 20,.frm 19,.frm 0])] SL]
def SN:List Out:=[oS 0,oS 1]
theorem SO {z y:Nat->Int}{n m k l K:Nat} (hn:n<=400000) (hm:m<=400000) (hk:k<=100000) (hl:l<=100000) (hK:K<=300000) (h1:0<(tl z n)) (h2:0<(tl y m)) (hB:∀j i p,j<(tl z n)->i<=(tl y m)->Bd (dP z y (tl y m) j i p).natAbs K):ai (ph (oG z y n m k l K)) Tryz.prog ⟨29,[.fact 0,.fact 1],[oS 12],false⟩:=by
 have hz:=aF z n;have hy:=aF y m
 exact aV SN [oS 12] SM Tryz.func29 (by kernel_rfl)
  (lB (gS (z:=z) (n:=n) (k:=k) (F:=(If z k)) ad bc (fun _ _ _ _ g h=>aC.kp h g) rfl (by omega) (by omega))
   (lB (gS (z:=y) (n:=m) (k:=l) (F:=(If y l)) ad bc (fun _ _ _ _ g h=>aC.kp h g) rfl (by omega) (by omega))
   (lB (aP (F:=(If z k)) Tryz.underlying28 ad rfl)
   (lB (dO ad)
   (lB (aP (F:=(If y l)) Tryz.underlying28 ad rfl)
   (lB (dO ad)
   (lB (aP (F:=(If z k)) Tryz.underlying28 ad rfl)
   (lB (aP (F:=(If y l)) Tryz.underlying28 ad rfl)
   (lB (fm ad ad (by omega) rfl (by omega) (by omega))
   (lB (bK ad (by omega) rfl (by omega) (by omega))
   (lB (gZ (n:=((tl z n)+(tl y m)-1)) (F:=(Nf (gT z y (tl y m) 0) K)) ad (by omega) (fun i w=>af.zero w K) rfl)
   (lB (aP (F:=(If z k)) Tryz.underlying28 ad rfl)
   (bz (counted (tl z n) (fun j=>ph (oG z y n m k l K ++ vE z y n m k K j)) (fun _=>0) (fun j p hp=>bB (show p<(oG z y n m k l K).length from hp)) ⟨fun _=>rfl,ad,aS,trivial⟩ (fun j hj=>by
   skip
   exact ⟨(Dz,[.frm 20,.frm 19,.frm 0]),rfl,⟨ad,ad,aS,trivial⟩,(lB (cU ad ad)
   (lB (bZ (i:=j) (F:=(If z k)) Tryz.underlying28 (by kernel_rfl) ad ad (by omega) rfl)
   (lB (dW (sz:=2) (F:=Iw (z j) k) (by kernel_rfl) (by kernel_rfl) ad (fun _ _ _ g h=>aC.kp h g) (fun _ _ h=>aC.is h) rfl)
   (lB (aP (F:=(If y l)) Tryz.underlying28 ad rfl)
   (bz (counted (tl y m) (fun i=>ph ((oG z y n m k l K ++ vE z y n m k K j) ++ SJ z y n m k l K j i)) (fun _=>0) (fun i p hp=>bB (show p<(oG z y n m k l K ++ vE z y n m k K j).length from hp)) ⟨fun _=>rfl,fun _ _ h=>ah.to (sz:=2) (e:=52) (n:=((tl z n)+(tl y m)-1)) (F:=(fun ι w v=>af w v ((gT z y (tl y m) j) ι) K)) (G:=(fun ι w v=>af w v ((dP z y (tl y m) j 0) ι) K)) h fun a w v ha h=>by rw [SG];exact h,aS,trivial⟩ (fun i hi=>by
   skip
   exact ⟨(Dx,[.frm 36,.frm 35,.frm 0]),rfl,⟨ad,ad,aS,trivial⟩,(lB (cU ad ad)
   (lB (bZ (i:=i) (F:=(If y l)) Tryz.underlying28 (by kernel_rfl) ad ad (by omega) rfl)
   (lB (dW (sz:=2) (F:=Iw (y i) l) (by kernel_rfl) (by kernel_rfl) ad (fun _ _ _ g h=>aC.kp h g) (fun _ _ h=>aC.is h) rfl)
   (lB (fm ad ad (by omega) rfl (by omega) (by omega))
   (lB (fm ad ad (by omega) rfl (by omega) (by omega))
   (lB (bI (i:=(j+i)) (sz:=2) (n:=((tl z n)+(tl y m)-1)) (F:=(Nf (dP z y (tl y m) j i) K)) Tryz.underlying28 (by kernel_rfl) (fun _ _ h=>ah.arr h) ad (by omega) rfl rfl)
   (lB (dW (sz:=2) (F:=Nw ((dP z y (tl y m) j i) (j+i)) K) (by kernel_rfl) (by kernel_rfl) ad (fun _ _ _ g h=>af.kp h g) (fun _ _ h=>af.is h) rfl)
   (lB (g9 iI iI rfl (by omega) rfl)
   (lB (de [1] (qP nI nI rfl (by omega) rfl))
   (lB (bI (i:=(j+i)) (sz:=2) (n:=((tl z n)+(tl y m)-1)) (F:=(Nf (dP z y (tl y m) j i) K)) Tryz.underlying28 (by kernel_rfl) (fun _ _ h=>ah.arr h) ad (by omega) rfl rfl)
   (lB (fo (i:=(j+i)) (n:=((tl z n)+(tl y m)-1)) (F:=(fun ι w v=>af w v ((dP z y (tl y m) j i) ι) K)) (F':=(fun ι w v=>af w v ((dP z y (tl y m) j (i+1)) ι) K)) (G:=Nw (((dP z y (tl y m) j i) (j+i))+((z j)*(y i))) (K+(k+l)+1)) (.tmp 43) (.tmp 46) (by kernel_rfl) ad ad (by omega) ad rfl (fun _ _ h=>af.cells h) (fun _ _ _ _ g h=>af.kp h g) (fun _ _ _ g h=>af.kp h g) (fun a w v ha h=>by rw [SH ha];exact h) (fun w v h=>af.re (h.eq SI) (hB j (i+1) (j+i) (by omega) (by omega))) rfl)
   (lB (cN ad (by omega) rfl (by omega) (by omega))
   aw))))))))))))⟩)
   (lB (tlF ad ad)
   aw)
   (fun q hq w v h=>by
    simp only [Du,List.mem_cons,List.not_mem_nil,or_false] at hq
    rcases hq with rfl
    ·exact (fun h=>h) h)) (lB (cN ad (by omega) rfl (by omega) (by omega))
   aw))))))⟩)
   (lB (tlF ad ad)
   aw)
   (fun q hq w v h=>by
    simp only [Dy,List.mem_cons,List.not_mem_nil,or_false] at hq
    rcases hq with rfl
    ·exact (fun h=>h) h)) aw)))))))))))))
  (aL [.fact 0 (.one (.s)),.fact 1 (.one (.s))] ⟨Rw.Is 2 (If z k) n,Rw.Is 2 (If y l) m,trivial⟩) bc
def SP (z y:Nat->Int) (n m k l:Nat):List WP:=[Rw 2 (If z k) n,Rw 2 (If y l) m,Rw 2 (If z k) (tl z n),Rw 2 (If y l) (tl y m),Nz (tl z n)]
def SQ:List Step:=[.base ⟨60,[.fact 0],[oS 2],false⟩,
   .base ⟨60,[.fact 1],[oS 3],false⟩,
   bQ [.fact 2] [oN 4] (aD 28),
   bQ [.fact 4,.lit (.ci .i64 0)] oT (ak .eql)]
def SR:List Out:=[oS 0,oS 1]
theorem SS {z y:Nat->Int}{n m k l:Nat} (hn:n<=400000) (hm:m<=400000) (hk:k<=100000) (hl:l<=100000) (h1:(tl z n)=0):ai (ph (SP z y n m k l)) Tryz.prog ⟨29,[.fact 0,.fact 1],[⟨.one (.lit (.nl)),[]⟩],false⟩:=by
 have hz:=aF z n;have hy:=aF y m
 exact aV SR [⟨.one (.lit (.nl)),[]⟩] SQ Tryz.func29 (by kernel_rfl)
  (lB (gS (z:=z) (n:=n) (k:=k) (F:=(If z k)) ad bc (fun _ _ _ _ g h=>aC.kp h g) rfl (by omega) (by omega))
   (lB (gS (z:=y) (n:=m) (k:=l) (F:=(If y l)) ad bc (fun _ _ _ _ g h=>aC.kp h g) rfl (by omega) (by omega))
   (lB (aP (F:=(If z k)) Tryz.underlying28 ad rfl)
   (lB (jK ad)
   aw))))
  (aL [.fact 0 (.one (.s)),.fact 1 (.one (.s))] ⟨Rw.Is 2 (If z k) n,Rw.Is 2 (If y l) m,trivial⟩) bc
def ST (z y:Nat->Int) (n m k l:Nat):List WP:=[Rw 2 (If z k) n,Rw 2 (If y l) m,Rw 2 (If z k) (tl z n),Rw 2 (If y l) (tl y m),Nz (tl z n),Nz (tl y m)]
def SU:List Step:=[.base ⟨60,[.fact 0],[oS 2],false⟩,
   .base ⟨60,[.fact 1],[oS 3],false⟩,
   bQ [.fact 2] [oN 4] (aD 28),
   bQ [.fact 4,.lit (.ci .i64 0)] oF (ak .eql),
   bQ [.fact 3] [oN 5] (aD 28),
   bQ [.fact 5,.lit (.ci .i64 0)] oT (ak .eql)]
def SW:List Out:=[oS 0,oS 1]
theorem SX {z y:Nat->Int}{n m k l:Nat} (hn:n<=400000) (hm:m<=400000) (hk:k<=100000) (hl:l<=100000) (h1:0<(tl z n)) (h2:(tl y m)=0):ai (ph (ST z y n m k l)) Tryz.prog ⟨29,[.fact 0,.fact 1],[⟨.one (.lit (.nl)),[]⟩],false⟩:=by
 have hz:=aF z n;have hy:=aF y m
 exact aV SW [⟨.one (.lit (.nl)),[]⟩] SU Tryz.func29 (by kernel_rfl)
  (lB (gS (z:=z) (n:=n) (k:=k) (F:=(If z k)) ad bc (fun _ _ _ _ g h=>aC.kp h g) rfl (by omega) (by omega))
   (lB (gS (z:=y) (n:=m) (k:=l) (F:=(If y l)) ad bc (fun _ _ _ _ g h=>aC.kp h g) rfl (by omega) (by omega))
   (lB (aP (F:=(If z k)) Tryz.underlying28 ad rfl)
   (lB (dO ad)
   (lB (aP (F:=(If y l)) Tryz.underlying28 ad rfl)
   (lB (jK ad)
   aw))))))
  (aL [.fact 0 (.one (.s)),.fact 1 (.one (.s))] ⟨Rw.Is 2 (If z k) n,Rw.Is 2 (If y l) m,trivial⟩) bc
def conv (f g:Nat->Int):Nat->Int
 | 0=>f 0*g 0
 | p+1=>f 0*g (p+1)+conv (fun x=>f (x+1)) g p
theorem DA:∀(p:Nat) (f g:Nat->Int),conv f g (p+1)=conv f (fun x=>g (x+1)) p+f (p+1)*g 0
 | 0,f,g=>rfl
 | p+1,f,g=>by
  rw [conv,DA p (fun x=>f (x+1)) g]
  simp only [conv]
  omega
theorem eF:∀(p:Nat) (f g:Nat->Int),conv f g p=conv g f p
 | 0,f,g=>Int.mul_comm _ _
 | p+1,f,g=>by
  rw [conv,DA p g f,eF p (fun x=>f (x+1)) g,Int.mul_comm (f 0)]
  omega
theorem jZ:∀{p:Nat}{f f' g g':Nat->Int},(∀i,i<=p->f i=f' i)->(∀i,i<=p->g i=g' i)->conv f g p=conv f' g' p
 | 0,_,_,_,_,hf,hg=>by simp only [conv];rw [hf 0 (Nat.le_refl _),hg 0 (Nat.le_refl _)]
 | p+1,_,_,_,_,hf,hg=>by
  simp only [conv]
  rw [hf 0 (by omega),hg (p+1) (Nat.le_refl _),jZ (fun i hi=>hf (i+1) (by omega)) (fun i hi=>hg i (by omega))]
theorem fS:∀(p:Nat) (f f' g:Nat->Int),conv (fun x=>f x+f' x) g p=conv f g p+conv f' g p
 | 0,f,f',g=>Int.add_mul _ _ _
 | p+1,f,f',g=>by
  simp only [conv]
  rw [fS p,Int.add_mul]
  omega
theorem pX (p:Nat) (f g g':Nat->Int):conv f (fun x=>g x+g' x) p=conv f g p+conv f g' p:=by
 rw [eF,fS,eF p g,eF p g']
theorem fT:∀(p:Nat) (c:Int) (f g:Nat->Int),conv (fun x=>c*f x) g p=c*conv f g p
 | 0,c,f,g=>Int.mul_assoc _ _ _
 | p+1,c,f,g=>by
  simp only [conv]
  rw [fT p,Int.mul_add,Int.mul_assoc]
theorem fR:∀(p:Nat) (a b c:Nat->Int),conv (conv a b) c p=conv a (conv b c) p
 | 0,a,b,c=>Int.mul_assoc _ _ _
 | p+1,a,b,c=>by
  have e:(fun x=>conv a b (x+1))=fun x=>a 0*b (x+1)+conv (fun y=>a (y+1)) b x:=rfl
  rw [conv,e,fS p (fun x=>a 0*b (x+1)) (conv (fun y=>a (y+1)) b) c,fT p (a 0) (fun x=>b (x+1)) c,fR p (fun y=>a (y+1)) b c]
  show _=a 0*conv b c (p+1)+conv (fun x=>a (x+1)) (conv b c) p
  simp only [conv]
  rw [Int.mul_add,Int.mul_assoc]
  omega
theorem Ji {n i:Nat}{f:Nat->Int} (h:n<=i):upto n f i=0:=if_neg (by omega)
theorem Bd.uL {A B i:Nat} (h:Bd A i) (k:Bd B i):Bd (A+B) (i+1):=by
 unfold Bd at *
 rw [Nat.pow_succ]
 generalize 4294967296 ^ i=M at *
 omega
def sumTo (f:Nat->Int):Nat->Int
 | 0=>0
 | n+1=>sumTo f n+f n
theorem sumTo_congr {f g:Nat->Int}:∀{n:Nat},(∀i,i<n->f i=g i)->sumTo f n=sumTo g n
 | 0,_=>rfl
 | n+1,h=>by simp only [sumTo];rw [sumTo_congr fun i hi=>h i (by omega),h n (by omega)]
theorem nG {f:Nat->Int}{n:Nat}:∀{k:Nat},(∀i,n<=i->i<n+k->f i=0)->sumTo f (n+k)=sumTo f n
 | 0,_=>rfl
 | k+1,h=>by
  rw [show n+(k+1)=(n+k)+1 by omega,sumTo,nG fun i h1 h2=>h i h1 (by omega),h (n+k) (by omega) (by omega)]
  omega
theorem DB (f:Nat->Int):∀n,sumTo f (n+1)=f 0+sumTo (fun i=>f (i+1)) n
 | 0=>by simp [sumTo]
 | n+1=>by
  rw [sumTo,DB f n]
  simp only [sumTo]
  omega
theorem ml:∀(p:Nat) (f g:Nat->Int),conv f g p=sumTo (fun x=>f x*g (p-x)) (p+1)
 | 0,f,g=>by simp [conv,sumTo]
 | p+1,f,g=>by
  rw [conv,ml p,DB (fun x=>f x*g (p+1-x)) (p+1)]
  refine congrArg (f 0*g (p+1) + ·) (sumTo_congr fun i _=>?_)
  show f (i+1)*g (p-i)=f (i+1)*g (p+1-(i+1))
  rw [Nat.add_sub_add_right]
theorem Ja {z:Nat->Int}{n i:Nat} (h:tl z n<=i):upto n z i=0:=by
 unfold upto
 split
 ·rename_i hi
  exact fQ z n i h hi
 ·rfl
def mulL (z:Nat->Int) (n:Nat) (y:Nat->Int) (m:Nat):List Int:=if tl z n=0∨tl y m=0 then [] else mk (tl z n+tl y m-1) (gT z y (tl y m) (tl z n))
theorem ft:∀{f g:Nat->Int},(∀i,f i=0)->∀p,conv f g p=0
 | _,_,h,0=>by simp only [conv];rw [h,Int.zero_mul]
 | _,_,h,p+1=>by
  simp only [conv]
  rw [h,Int.zero_mul,Int.zero_add,ft (fun i=>h (i+1)) p]
theorem jz {f g:Nat->Int}{a b p:Nat} (hf:∀i,a<=i->f i=0) (hg:∀i,b<=i->g i=0) (h:a+b<=p+1):conv f g p=0:=by
 rw [ml,show p+1=0+(p+1) by omega,nG (n:=0) fun i _ hi=>?_]
 ·rfl
 ·rcases Nat.lt_or_ge i a with h1 | h1
  ·rw [hg _ (by omega),Int.mul_zero]
  ·rw [hf _ h1,Int.zero_mul]
theorem DC {z y:Nat->Int}{l k k' c n:Nat} (hz:∀i,i<n->Bd (z i).natAbs k) (hy:∀i,i<l->Bd (y i).natAbs k'):∀{j},j<=n->j<=c->∀p,Bd (gT z y l j p).natAbs (k+k'+j)
 | 0,_,_,p=>Nat.pow_pos (by omega)
 | j+1,h1,h2,p=>by
  have h3:=DC (c:=c) hz hy (j:=j) (by omega) (by omega) p
  rw [gT]
  have h4:Bd (if j<=p∧p<j+l then z j*y (p-j) else 0).natAbs (k+k'+j):=by
   split
   ·rw [Int.natAbs_mul]
    exact (Bd.mul (hz j (by omega)) (hy _ (by omega))).more (by omega)
   ·exact Nat.pow_pos (by omega)
  exact (Bd.uL h3 h4).le (Int.natAbs_add_le _ _)
theorem SY {z y:Nat->Int}{l k k' c n i:Nat} (hz:∀i,i<n->Bd (z i).natAbs k) (hy:∀i,i<l->Bd (y i).natAbs k'){j:Nat} (h1:j<n) (h2:n<=c) (hi:i<=l) (p:Nat):Bd (dP z y l j i p).natAbs (k+k'+c+1):=by
 have h3:=DC (c:=c) hz hy (j:=j) (by omega) (by omega) p
 have h4:Bd (if j<=p∧p<j+i then z j*y (p-j) else 0).natAbs (k+k'+j):=by
  split
  ·rw [Int.natAbs_mul]
   exact (Bd.mul (hz j h1) (hy _ (by omega))).more (by omega)
  ·exact Nat.pow_pos (by omega)
 exact ((Bd.uL h3 h4).le (Int.natAbs_add_le _ _)).more (by omega)
section
variable {Φ:PH}{p q x n m k l c:Nat}{z y:Nat->Int}{L:List Int}
theorem GS (hp:∀w v,Φ p w v->Rw 2 (If z k) n w v) (hx:Φ x=Rw 2 (Nf (ae L) k) L.length) (hn:n<=1000000) (hk:k<=500000) (hL:be (mk n z)=L):ai Φ Tryz.prog ⟨112,[.fact p],[oS x],false⟩:=
 aW (SB hn hk) ⟨hp,trivial⟩ ⟨⟨rfl,⟨rfl,rfl,fun _ _ h=>hx▸hL▸h⟩,trivial⟩,trivial⟩
theorem Q8 (hp:∀w v,Φ p w v->Rw 2 (If z k) n w v) (hq:∀w v,Φ q w v->Rw 2 (If y l) m w v) (hx:Φ x=Rw 2 (Nf (ae L) (k+l+1)) L.length) (hn:n<=1000000) (hm:m<=1000000) (hk:k<=200000) (hl:l<=200000) (hL:be (mk (max n m) (fun i=>upto n z i-upto m y i))=L):ai Φ Tryz.prog ⟨57,[.fact p,.fact q],[oS x],false⟩:=
 aW (SF hn hm hk hl) ⟨hp,hq,trivial⟩ ⟨⟨rfl,⟨rfl,rfl,fun _ _ h=>hx▸hL▸h⟩,trivial⟩,trivial⟩
theorem DD {w:World}{v:Value} (h:Rw 2 (If z k) n w v) (i:Nat) (hi:i<n):Bd (z i).natAbs k:=by
 obtain ⟨_,_,_,_,h1⟩:=h
 obtain ⟨_,_,_,l,_,_,h2⟩:=h1 i hi
 exact aC.bd' h2
theorem DE {X:Nat->Prop}{w:World}{us:List Value}{K:Nat} (hx:Φ x=Rw 2 (Nf (ae L) K) L.length) (hL:L = []) (h:bh Φ X w [⟨.one (.lit .nl),[]⟩] us):bh Φ X w [oS x] us:=by
 subst hL
 match us,h with
 | [u],h=>
  obtain rfl:u = .slice none 0 0:=h.1.1.1
  exact cJ ⟨⟨_,_,_,rfl⟩,fun _ h=>by cases h⟩ hx fun w1 _=>Rw.nil 2 _ w1
theorem SZ (hp:∀w v,Φ p w v->Rw 2 (If z k) n w v) (hq:∀w v,Φ q w v->Rw 2 (If y l) m w v) (hx:Φ x=Rw 2 (Nf (ae L) (k+l+c+1)) L.length) (hn:n<=c) (hm:m<=400000) (hc:c<=1000) (hk:k<=100000) (hl:l<=100000) (hL:mulL z n y m=L):ai Φ Tryz.prog ⟨29,[.fact p,.fact q],[oS x],false⟩:=fun X w vs hX ha=>by
 match vs,ha with
 | [v,u],ha=>
  have hz:=DD (hp _ _ (ha.1 w (Off.refl _ _)))
  have hy:=DD (hq _ _ (ha.2.1 w (Off.refl _ _)))
  have hzl:=aF z n
  have hyl:=aF y m
  rcases Nat.eq_zero_or_pos (tl z n) with h1 | h1
  ·exact (aW (outs:=[⟨.one (.lit .nl),[]⟩]) (Φ:=Φ) (ar:=[.fact p,.fact q]) (SS (z:=z) (y:=y) (n:=n) (m:=m) (k:=k) (l:=l) (by omega) hm hk hl h1) ⟨hp,hq,trivial⟩ ⟨⟨rfl,trivial⟩,trivial⟩ X w [v,u] hX ha).mono fun e w' ⟨hg,us,he,h2⟩=>⟨hg,us,he,DE hx (by rw [<- hL,mulL,if_pos (.inl h1)]) h2⟩
  rcases Nat.eq_zero_or_pos (tl y m) with h2 | h2
  ·exact (aW (outs:=[⟨.one (.lit .nl),[]⟩]) (Φ:=Φ) (ar:=[.fact p,.fact q]) (SX (z:=z) (y:=y) (n:=n) (m:=m) (k:=k) (l:=l) (by omega) hm hk hl h1 h2) ⟨hp,hq,trivial⟩ ⟨⟨rfl,trivial⟩,trivial⟩ X w [v,u] hX ha).mono fun e w' ⟨hg,us,he,h2'⟩=>⟨hg,us,he,DE hx (by rw [<- hL,mulL,if_pos (.inr h2)]) h2'⟩
  ·refine aW (Φ:=Φ) (ar:=[.fact p,.fact q]) (outs:=[oS x]) (SO (z:=z) (y:=y) (n:=n) (m:=m) (k:=k) (l:=l) (K:=k+l+c+1) (by omega) hm hk hl (by omega) h1 h2 fun j i p hj hi=>SY (n:=tl z n) (l:=tl y m) (c:=c) (fun i hi=>hz i (by omega)) (fun i hi=>hy i (by omega)) hj (by omega) hi p) ⟨hp,hq,trivial⟩ ⟨⟨rfl,⟨rfl,rfl,fun w v h=>?_⟩,trivial⟩,trivial⟩ X w [v,u] hX ha
   rw [hx,<- hL,mulL,if_neg (by omega),iG]
   exact Rw.to (ah.rw (e:=52) (F:=fun i w v=>af w v (gT z y (tl y m) (tl z n) i) (k+l+c+1)) h) fun i w v hi h=>h.eq (by rw [fl,if_pos hi])
end
end Go.Proofs.YtbokonbbokhjlaaGreat.Sym
