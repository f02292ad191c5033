/- poly.each and both (Norm -/
import Derived.Test.YtomamliepbhegaaGreatPolX
set_option maxRecDepth 100000
namespace Go.Proofs.YtomamliepbhegaaGreat.Sym
open Go.Proofs.Tryz
open Go.RowKit
variable {K i j k l m n p:Nat}{f y z:Nat->Int}{w:World}
theorem rS {Φ:PH}{q x:Nat}{z y t:Int} (hp:∀w v,Φ p w v->aE w v z i) (hq:∀w v,Φ q w v->aE w v y j) (hx:Φ x=Nw t (i+j+1)) (ht:z-y=t) (hi:i+j<=1000000:=by omega):aj Φ prog ⟨123,[.fact p,.fact q],[⟨iS,[(0,0,x)]⟩],false⟩:=
 fk fun _ _ _ _ h0 h1=>((QN (hp _ _ (get h0)) (hq _ _ (get h1)) hi).mono fun _ _ h=>h.got).mono fun _ _ h=>jE (ht▸hx) h
def eS (z y:Nat->Int) (l:Nat):Nat->Nat->Int
 | 0,_=>0
 | j+1,p=>eS z y l j p+(if j<=p∧p<j+l then z j*y (p-j) else 0)
def dM (z y:Nat->Int) (l:Nat) (j i p:Nat):Int:=eS z y l j p+(if j<=p∧p<j+i then z j*y (p-j) else 0)
def yc (z:Nat->Int) (n k:Nat):List WP:=[Rw 2 (If z k) n,Nz n,ah 2 57 (Nf (upto 0 z) k) n,Nz n,ah 2 57 (Nf (upto n z) k) n,Rw 2 (Nf (upto n z) k) (tl (upto n z) n)]
def Zw (z:Nat->Int) (n k:Nat) (j:Nat):List WP:=[Nz j,ah 2 57 (Nf (upto j z) k) n,fun _ _=>True,Ptr 2 (Iw (z j) k),Iw (z j) k,Nw (z j) k,At 2,Ptr 2 (Nw ((upto j z) j) k),fun w v=>ah 2 57 (fun ι w v=>ai w v ((upto (j+1) z) ι) k) n w v,Nz (j+1)]
def Id:bf:=⟨[0,1,4,8,9,10,11,12],[(.slot 13,.i),(.slot 5,.s)],[(.one 0,6),(.one 1,.bB [1] 7),(.one 1,.lo 1)],[.closed (.one (.ci .i64 0)),.frm 2,.frm 0],6,[(7,4)]⟩
def Ie:List Step:=[bQ [6,3] oT (ak .lss),bQ [0,6] [oP 9] (aH 28),bQ [9] [oI 10] (aI 57),.base ⟨91,[10],[oI 11],false⟩,.base ⟨0,[7,6],[oP 13],.joint [1] 12 (aH 28)⟩,.base ⟨0,[7,6,.any,11],[oS 14],.put [] 1 0 12 (dR 57 (.tmp 18) (.tmp 19))⟩,bQ [6,.lit (.ci .i64 1)] [oN 15] (ak .add)]
def Zx:List Step:=[bQ [6,3] oF (ak .lss)]
def Zy:List Step:=[bQ [0] [oN 1] (aC 28),.base ⟨0,[1,1],[oS 2],.loose [] 1 0 (fE 28)⟩,bQ [0] [oN 3] (aC 28),.loop Id [(Ie,[.frm 15,.frm 14,.frm 0])] Zx,.base ⟨42,[4],[oS 5],.cC [1] false⟩]
def Zz:List Out:=[oS 0,⟨.one (.lit (.fn 91)),[]⟩]
theorem ZA  (hn:n<=1000000) (hk:k<=500000):aj (ph (yc z n k)) prog ⟨115,[0,.lit (.fn 91)],[oS 5],false⟩:=aV Zz [oS 5] Zy func115 (by kernel_rfl) (lB (aJ (F:=(If z k)) underlying28 ad rfl) (lB (jc (n:=n) (F:=(Nf (upto 0 z) k)) ad (fun i w=>ai.zero w k) rfl) (lB (aJ (F:=(If z k)) underlying28 ad rfl) (bk (counted n (fun j=>ph (yc z n k ++ Zw z n k j)) (fun _=>0) (fun j p hp=>bm (show p<(yc z n k).length from hp)) ⟨fun _=>rfl,ad,aP,trivial⟩ (fun j hj=>by
   skip
   exact ⟨(Ie,[.frm 15,.frm 14,.frm 0]),rfl,⟨ad,ad,aP,trivial⟩,(lB (bT ad ad) (lB (bz (i:=j) (F:=(If z k)) underlying28 ad ad rfl) (lB (cm (sz:=2) (F:=Iw (z j) k) ad (fun _ _ _ g h=>aE.kp h g) (fun _ _ h=>aE.is h) rfl) (lB (vd iI rfl rfl) (lB (bW (i:=j) (sz:=2) (n:=n) (F:=(Nf (upto j z) k)) underlying28 (fun _ _ h=>ah.arr h) ad rfl rfl) (lB (fD (i:=j) (n:=n) (F:=(fun ι w v=>ai w v ((upto j z) ι) k)) (F':=(fun ι w v=>ai w v ((upto (j+1) z) ι) k)) (G:=Nw (z j) k) (.tmp 18) (.tmp 19) ad ad ad rfl (fun _ _ h=>ai.cells h) (fun _ _ _ _ g h=>ai.kp h g) (fun _ _ _ g h=>ai.kp h g) (fun i w v hi h=>by rw [od hi];exact h) (fun w v h=>h.eq (oe j z).symm) rfl) (lB (ce ad rfl) au)))))))⟩) (lB (tlF ad ad) au)
   (fun q hq w v h=>by
    simp only [Id,List.mem_cons,List.not_mem_nil,or_false] at hq
    rcases hq with rfl
    ·exact (fun h=>h) h)) (lB (cS [1] (iN (z:=(upto n z)) (n:=n) (k:=k) (F:=(Nf (upto n z) k)) (fun _ _ h=>ah.rw h) (fun _ _ _ h=>ai.i h) (fun _ _ _ _ g h=>ai.kp h g) rfl)) au)))))
  (aK [.fact 0 (.one (.s)),.lit (.fn 91)] ⟨Rw.Is 2 (If z k) n,(fun _ h=>by cases h),trivial⟩) bg
def yd (z y:Nat->Int) (n m k l:Nat):List WP:=[Rw 2 (If z k) n,Rw 2 (If y l) m,Nz n,Nz m,Nz (max n m),fun w v=>ah 2 57 (fun ι w v=>ai w v ((upto 0 (fun i=>upto n z i-upto m y i)) ι) (k+l+1)) (max n m) w v,cw (max n m),Nz (max n m),fun w v=>ah 2 57 (fun ι w v=>ai w v ((upto (max n m) (fun i=>upto n z i-upto m y i)) ι) (k+l+1)) (max n m) w v,fun w v=>Rw 2 (fun ι w v=>ai w v ((upto (max n m) (fun i=>upto n z i-upto m y i)) ι) (k+l+1)) (tl (upto (max n m) (fun i=>upto n z i-upto m y i)) (max n m)) w v]
def ZB (z y:Nat->Int) (n m k l:Nat) (j:Nat):List WP:=[Nz j,fun w v=>ah 2 57 (fun ι w v=>ai w v ((upto j (fun i=>upto n z i-upto m y i)) ι) (k+l+1)) (max n m) w v,fun _ _=>True,Iw (upto n z j) k,Iw (upto m y j) l,Nw ((upto n z j)-(upto m y j)) (k+l+1),At 2,Ptr 2 (Nw ((upto j (fun i=>upto n z i-upto m y i)) j) (k+l+1)),fun w v=>ah 2 57 (fun ι w v=>ai w v ((upto (j+1) (fun i=>upto n z i-upto m y i)) ι) (k+l+1)) (max n m) w v,Nz (j+1)]
def Ig:bf:=⟨[0,1,2,6,9,10,11,12,13,14,15,16],[(.slot 17,.i),(.slot 7,.s)],[(.one 0,10),(.one 1,.bB [1] 11),(.one 1,.lo 1)],[.closed (.one (.ci .i64 0)),.frm 5,.frm 0],10,[(11,8)]⟩
def Ih:List Step:=[bQ [10,7] oT (ak .lss),.base ⟨83,[0,10],[oI 13],false⟩,.base ⟨83,[1,10],[oI 14],false⟩,.base ⟨123,[13,14],[oI 15],false⟩,.base ⟨0,[11,10],[oP 17],.joint [1] 16 (aH 28)⟩,.base ⟨0,[11,10,.any,15],[oS 18],.put [] 1 0 16 (dR 57 (.tmp 20) (.tmp 21))⟩,bQ [10,.lit (.ci .i64 1)] [oN 19] (ak .add)]
def ZE:List Step:=[bQ [10,7] oF (ak .lss)]
def ZF:List Step:=[bQ [0] [oN 2] (aC 28),bQ [1] [oN 3] (aC 28),bQ [2,3] [oN 4] (hO .max),.base ⟨0,[4,4],[oS 5],.loose [] 1 0 (fE 28)⟩,.freed (.one (.s 7 0)) 5 6,bQ [6] [oN 7] (aC 28),.loop Ig [(Ih,[.frm 19,.frm 18,.frm 0])] ZE,.base ⟨42,[8],[oS 9],.cC [1] false⟩]
def ZG:List Out:=[oS 0,oS 1,⟨.one (.lit (.fn 123)),[]⟩]
theorem ZH  (hn:n<=1000000) (hm:m<=1000000) (hk:k<=200000) (hl:l<=200000):aj (ph (yd z y n m k l)) prog ⟨55,[0,1,.lit (.fn 123)],[oS 9],false⟩:=aV ZG [oS 9] ZF func55 (by kernel_rfl) (lB (aJ (F:=(If z k)) underlying28 ad rfl) (lB (aJ (F:=(If y l)) underlying28 ad rfl) (lB (Zq ad ad (by split <;> omega) rfl) (lB (jc (n:=(max n m)) (F:=(fun ι w v=>ai w v ((upto 0 (fun i=>upto n z i-upto m y i)) ι) (k+l+1))) ad (fun i w=>ai.zero w (k+l+1)) rfl) (cR (de (e:=57) (sz:=2) (n:=(max n m)) (F:=(fun ι w v=>ai w v ((upto 0 (fun i=>upto n z i-upto m y i)) ι) (k+l+1))) ad rfl) (lB (ch (n:=(max n m)) underlying28 ad rfl) (bk (counted (max n m) (fun j=>ph (yd z y n m k l ++ ZB z y n m k l j)) (fun _=>0) (fun j p hp=>bm (show p<(yd z y n m k l).length from hp)) ⟨fun _=>rfl,ad,aP,trivial⟩ (fun j hj=>by
   skip
   exact ⟨(Ih,[.frm 19,.frm 18,.frm 0]),rfl,⟨ad,ad,aP,trivial⟩,(lB (bT ad ad) (lB (ye (z:=z) (n:=n) (i:=j) (Rw.To 2 (If z k) n (fun _ _ _ _ h=>h)) ad rfl (fun h=>(gx h).symm) (fun h=>if_neg (by omega))) (lB (ye (z:=y) (n:=m) (i:=j) (Rw.To 2 (If y l) m (fun _ _ _ _ h=>h)) ad rfl (fun h=>(gx h).symm) (fun h=>if_neg (by omega))) (lB (rS iI iI rfl rfl) (lB (bW (i:=j) (sz:=2) (n:=(max n m)) (F:=(fun ι w v=>ai w v ((upto j (fun i=>upto n z i-upto m y i)) ι) (k+l+1))) underlying28 (fun _ _ h=>ah.arr h) ad rfl rfl) (lB (fD (i:=j) (n:=(max n m)) (F:=(fun ι w v=>ai w v ((upto j (fun i=>upto n z i-upto m y i)) ι) (k+l+1))) (F':=(fun ι w v=>ai w v ((upto (j+1) (fun i=>upto n z i-upto m y i)) ι) (k+l+1))) (G:=Nw ((upto n z j)-(upto m y j)) (k+l+1)) (.tmp 20) (.tmp 21) ad ad ad rfl (fun _ _ h=>ai.cells h) (fun _ _ _ _ g h=>ai.kp h g) (fun _ _ _ g h=>ai.kp h g) (fun i w v hi h=>by rw [od hi];exact h) (fun w v h=>h.eq (oe j (fun i=>upto n z i-upto m y i)).symm) rfl) (lB (ce ad rfl) au)))))))⟩) (lB (tlF ad ad) au)
   (fun q hq w v h=>by
    simp only [Ig,List.mem_cons,List.not_mem_nil,or_false] at hq
    rcases hq with rfl
    ·exact (fun h=>h) h)) (lB (cS [1] (iN (z:=(upto (max n m) (fun i=>upto n z i-upto m y i))) (n:=(max n m)) (k:=(k+l+1)) (F:=(fun ι w v=>ai w v ((upto (max n m) (fun i=>upto n z i-upto m y i)) ι) (k+l+1))) (fun _ _ h=>ah.rw h) (fun _ _ _ h=>ai.i h) (fun _ _ _ _ g h=>ai.kp h g) rfl)) au))))))))
  (aK [.fact 0 (.one (.s)),.fact 1 (.one (.s)),.lit (.fn 123)] ⟨Rw.Is 2 (If z k) n,Rw.Is 2 (If y l) m,(fun _ h=>by cases h),trivial⟩) bg
section
variable {Φ:PH}{q x:Nat}{L:List Int}
theorem ZJ (hp:∀w v,Φ p w v->Rw 2 (If z k) n w v) (hx:Φ x=Rw 2 (Nf (ae L) k) L.length) (hL:aG (mk n z)=L) (hn:n<=1000000:=by omega) (hk:k<=500000:=by omega):aj Φ prog ⟨115,[.fact p,.lit (.fn 91)],[oS x],false⟩:=
 aW (ZA hn hk) ⟨hp,rfl,trivial⟩ ⟨⟨rfl,⟨rfl,rfl,fun _ _ h=>hx▸hL▸yf h⟩,trivial⟩,trivial⟩
theorem ZK (hp:∀w v,Φ p w v->Rw 2 (If z k) n w v) (hq:∀w v,Φ q w v->Rw 2 (If y l) m w v) (hx:Φ x=Rw 2 (Nf (ae L) (k+l+1)) L.length) (hL:aG (mk (max n m) (fun i=>upto n z i-upto m y i))=L) (hn:n<=1000000:=by omega) (hm:m<=1000000:=by omega) (hk:k<=200000:=by omega) (hl:l<=200000:=by omega):aj Φ prog ⟨55,[.fact p,.fact q,.lit (.fn 123)],[oS x],false⟩:=
 aW (ZH hn hm hk hl) ⟨hp,hq,rfl,trivial⟩ ⟨⟨rfl,⟨rfl,rfl,fun _ _ h=>hx▸hL▸yf h⟩,trivial⟩,trivial⟩
end
def ZL (z:Nat->Int) (n k:Nat):List WP:=[Rw 2 (If z k) n,Rw 2 (Nf (ae (aG (mk n z))) k) ((aG (mk n z)).length)]
def ZM:List Step:=[.base ⟨115,[0,.lit (.fn 91)],[oS 1],false⟩]
def ZN:List Out:=[oS 0]
theorem ZO  (hn:n<=1000000) (hk:k<=500000):aj (ph (ZL z n k)) prog ⟨93,[0],[oS 1],false⟩:=aV ZN [oS 1] ZM func93 (by kernel_rfl) (lB (ZJ (Rw.To 2 (If z k) n (fun _ _ _ _ h=>h)) rfl rfl) au)
  (aK [.fact 0 (.one (.s))] ⟨Rw.Is 2 (If z k) n,trivial⟩) bg
def ZP (z y:Nat->Int) (n m k l:Nat):List WP:=[Rw 2 (If z k) n,Rw 2 (If y l) m,fun w v=>Rw 2 (fun ι w v=>ai w v ((ae (aG (mk (max n m) (fun i=>upto n z i-upto m y i)))) ι) (k+l+1)) ((aG (mk (max n m) (fun i=>upto n z i-upto m y i))).length) w v]
def ZQ:List Step:=[.base ⟨55,[0,1,.lit (.fn 123)],[oS 2],false⟩]
def ZR:List Out:=[oS 0,oS 1]
theorem ZS  (hn:n<=1000000) (hm:m<=1000000) (hk:k<=200000) (hl:l<=200000):aj (ph (ZP z y n m k l)) prog ⟨104,[0,1],[oS 2],false⟩:=aV ZR [oS 2] ZQ func104 (by kernel_rfl) (lB (ZK (Rw.To 2 (If z k) n (fun _ _ _ _ h=>h)) (Rw.To 2 (If y l) m (fun _ _ _ _ h=>h)) rfl rfl) au)
  (aK [.fact 0 (.one (.s)),.fact 1 (.one (.s))] ⟨Rw.Is 2 (If z k) n,Rw.Is 2 (If y l) m,trivial⟩) bg
section
theorem ZT:dM z y l j 0 p=eS z y l j p:=by
 unfold dM
 rw [if_neg (by omega)];omega
theorem ZU (h:p≠j+i):dM z y l j (i+1) p=dM z y l j i p:=by
 unfold dM
 split <;> split <;> first | rfl | omega
theorem ZV:dM z y l j i (j+i)+z j*y i=dM z y l j (i+1) (j+i):=by
 unfold dM
 rw [if_neg (by omega),if_pos (by omega),show j+i-j=i by omega];omega
end
def qR (z y:Nat->Int) (n m k l K:Nat):List WP:=[Rw 2 (If z k) n,Rw 2 (If y l) m,Rw 2 (If z k) (tl z n),Rw 2 (If y l) (tl y m),Nz (tl z n),Nz (tl y m),Nz (tl z n),Nz (tl y m),Nz ((tl z n)+(tl y m)),Nz ((tl z n)+(tl y m)-1),ah 2 57 (Nf (eS z y (tl y m) 0) K) ((tl z n)+(tl y m)-1),Nz (tl z n),ah 2 57 (Nf (eS z y (tl y m) (tl z n)) K) ((tl z n)+(tl y m)-1)]
def ZW (z y:Nat->Int) (n m k l K:Nat) (j i:Nat):List WP:=[Nz i,ah 2 57 (Nf (dM z y (tl y m) j i) K) ((tl z n)+(tl y m)-1),fun _ _=>True,Ptr 2 (Iw (y i) l),Iw (y i) l,Nz (j+i),Nz (j+i),At 2,Ptr 2 (Nw ((dM z y (tl y m) j i) (j+i)) K),Nw ((dM z y (tl y m) j i) (j+i)) K,Nw ((z j)*(y i)) (k+l),Nw (((dM z y (tl y m) j i) (j+i))+((z j)*(y i))) (K+(k+l)+1),At 2,Ptr 2 (Nw ((dM z y (tl y m) j i) (j+i)) K),fun w v=>ah 2 57 (fun ι w v=>ai w v ((dM z y (tl y m) j (i+1)) ι) K) ((tl z n)+(tl y m)-1) w v,Nz (i+1)]
def Ii:bf:=⟨[0,1,4,6,7,10,11,12,13,14,15,16,17,18,19,20,21,22,23,24,25,26,27,28,29,30,31,32,33,34,35,36,37],[(.slot 38,.i),(.slot 5,.s)],[(.one 0,21),(.one 1,.bB [1] 22),(.one 1,.lo 1)],[.closed (.one (.ci .i64 0)),.frm 14,.frm 0],21,[(22,19)]⟩
def Ij:List Step:=[bQ [21,18] oT (ak .lss),bQ [3,21] [oP 24] (aH 28),bQ [24] [oI 25] (aI 57),bQ [13,21] [oN 26] (ak .add),bQ [13,21] [oN 27] (ak .add),.base ⟨0,[22,27],[oP 29],.joint [1] 28 (aH 28)⟩,.base ⟨0,[29],[oI 30],.fR [1] (aI 57)⟩,.base ⟨44,[17,25],[oI 31],false⟩,.base ⟨43,[30,31],[oI 32],.cC [1] false⟩,.base ⟨0,[22,26],[oP 34],.joint [1] 33 (aH 28)⟩,.base ⟨0,[22,26,.any,32],[oS 35],.put [] 1 0 33 (dR 57 (.tmp 43) (.tmp 46))⟩,bQ [21,.lit (.ci .i64 1)] [oN 36] (ak .add)]
def ZX:List Step:=[bQ [21,18] oF (ak .lss)]
def yg (z y:Nat->Int) (n m k K:Nat) (j:Nat):List WP:=[Nz j,ah 2 57 (Nf (eS z y (tl y m) j) K) ((tl z n)+(tl y m)-1),fun _ _=>True,Ptr 2 (Iw (z j) k),Iw (z j) k,Nz (tl y m),ah 2 57 (Nf (dM z y (tl y m) j (tl y m)) K) ((tl z n)+(tl y m)-1),Nz (j+1)]
def Ik:bf:=⟨[0,1,4,10,11,12,13,14,15,16,17,18,19,20,21,22,23,24,25,26,27,28,29,30],[(.slot 31,.i),(.slot 5,.s)],[(.one 0,13),(.one 1,.bB [1] 14),(.one 1,.lo 1)],[.closed (.one (.ci .i64 0)),.frm 10,.frm 0],13,[(14,12)]⟩
def Il:List Step:=[bQ [13,11] oT (ak .lss),bQ [2,13] [oP 16] (aH 28),bQ [16] [oI 17] (aI 57),bQ [3] [oN 18] (aC 28),.loop Ii [(Ij,[.frm 36,.frm 35,.frm 0])] ZX,bQ [13,.lit (.ci .i64 1)] [oN 20] (ak .add)]
def ZY:List Step:=[bQ [13,11] oF (ak .lss)]
def ZZ:List Step:=[.base ⟨42,[0],[oS 2],false⟩,.base ⟨42,[1],[oS 3],false⟩,bQ [2] [oN 4] (aC 28),bQ [4,.lit (.ci .i64 0)] oF (ak .eql),bQ [3] [oN 5] (aC 28),bQ [5,.lit (.ci .i64 0)] oF (ak .eql),bQ [2] [oN 6] (aC 28),bQ [3] [oN 7] (aC 28),bQ [6,7] [oN 8] (ak .add),bQ [8,.lit (.ci .i64 1)] [oN 9] (ak .sub),.base ⟨0,[9,9],[oS 10],.loose [] 1 0 (fE 28)⟩,bQ [2] [oN 11] (aC 28),.loop Ik [(Il,[.frm 20,.frm 19,.frm 0])] ZY]
def aaa:List Out:=[oS 0,oS 1]
theorem aab  (hn:n<=400000) (hm:m<=400000) (hk:k<=100000) (hl:l<=100000) (hK:K<=300000) (h1:0<(tl z n)) (h2:0<(tl y m)) (hB:∀j i p,j<(tl z n)->i<=(tl y m)->Bd (dM z y (tl y m) j i p).natAbs K):aj (ph (qR z y n m k l K)) prog ⟨17,[0,1],[oS 12],false⟩:=by
 have hz:=aL z n;have hy:=aL y m
 exact aV aaa [oS 12] ZZ func17 (by kernel_rfl) (lB (iN (z:=z) (n:=n) (k:=k) (F:=(If z k)) ad bg (fun _ _ _ _ g h=>aE.kp h g) rfl) (lB (iN (z:=y) (n:=m) (k:=l) (F:=(If y l)) ad bg (fun _ _ _ _ g h=>aE.kp h g) rfl) (lB (aJ (F:=(If z k)) underlying28 ad rfl) (lB (dg ad) (lB (aJ (F:=(If y l)) underlying28 ad rfl) (lB (dg ad) (lB (aJ (F:=(If z k)) underlying28 ad rfl) (lB (aJ (F:=(If y l)) underlying28 ad rfl) (lB (fj ad ad rfl) (lB (bO ad rfl) (lB (jc (n:=((tl z n)+(tl y m)-1)) (F:=(Nf (eS z y (tl y m) 0) K)) ad (fun i w=>ai.zero w K) rfl) (lB (aJ (F:=(If z k)) underlying28 ad rfl) (bk (counted (tl z n) (fun j=>ph (qR z y n m k l K ++ yg z y n m k K j)) (fun _=>0) (fun j p hp=>bm (show p<(qR z y n m k l K).length from hp)) ⟨fun _=>rfl,ad,aP,trivial⟩ (fun j hj=>by
   skip
   exact ⟨(Il,[.frm 20,.frm 19,.frm 0]),rfl,⟨ad,ad,aP,trivial⟩,(lB (bT ad ad) (lB (bz (i:=j) (F:=(If z k)) underlying28 ad ad rfl) (lB (cm (sz:=2) (F:=Iw (z j) k) ad (fun _ _ _ g h=>aE.kp h g) (fun _ _ h=>aE.is h) rfl) (lB (aJ (F:=(If y l)) underlying28 ad rfl) (bk (counted (tl y m) (fun i=>ph ((qR z y n m k l K ++ yg z y n m k K j) ++ ZW z y n m k l K j i)) (fun _=>0) (fun i p hp=>bm (show p<(qR z y n m k l K ++ yg z y n m k K j).length from hp)) ⟨fun _=>rfl,fun _ _ h=>ah.to (sz:=2) (e:=57) (n:=((tl z n)+(tl y m)-1)) (F:=(fun ι w v=>ai w v ((eS z y (tl y m) j) ι) K)) (G:=(fun ι w v=>ai w v ((dM z y (tl y m) j 0) ι) K)) h fun a w v ha h=>by rw [ZT];exact h,aP,trivial⟩ (fun i hi=>by
   skip
   exact ⟨(Ij,[.frm 36,.frm 35,.frm 0]),rfl,⟨ad,ad,aP,trivial⟩,(lB (bT ad ad) (lB (bz (i:=i) (F:=(If y l)) underlying28 ad ad rfl) (lB (cm (sz:=2) (F:=Iw (y i) l) ad (fun _ _ _ g h=>aE.kp h g) (fun _ _ h=>aE.is h) rfl) (lB (fj ad ad rfl) (lB (fj ad ad rfl) (lB (bW (i:=(j+i)) (sz:=2) (n:=((tl z n)+(tl y m)-1)) (F:=(Nf (dM z y (tl y m) j i) K)) underlying28 (fun _ _ h=>ah.arr h) ad rfl rfl) (lB (cm (sz:=2) (F:=Nw ((dM z y (tl y m) j i) (j+i)) K) ad (fun _ _ _ g h=>ai.kp h g) (fun _ _ h=>ai.is h) rfl) (lB (jd iI iI rfl rfl) (lB (cS [1] (tA nI nI rfl rfl)) (lB (bW (i:=(j+i)) (sz:=2) (n:=((tl z n)+(tl y m)-1)) (F:=(Nf (dM z y (tl y m) j i) K)) underlying28 (fun _ _ h=>ah.arr h) ad rfl rfl) (lB (fD (i:=(j+i)) (n:=((tl z n)+(tl y m)-1)) (F:=(fun ι w v=>ai w v ((dM z y (tl y m) j i) ι) K)) (F':=(fun ι w v=>ai w v ((dM z y (tl y m) j (i+1)) ι) K)) (G:=Nw (((dM z y (tl y m) j i) (j+i))+((z j)*(y i))) (K+(k+l)+1)) (.tmp 43) (.tmp 46) ad ad ad rfl (fun _ _ h=>ai.cells h) (fun _ _ _ _ g h=>ai.kp h g) (fun _ _ _ g h=>ai.kp h g) (fun a w v ha h=>by rw [ZU ha];exact h) (fun w v h=>ai.re (h.eq ZV) (hB j (i+1) (j+i) (by omega) (by omega))) rfl) (lB (ce ad rfl) au))))))))))))⟩) (lB (tlF ad ad) au)
   (fun q hq w v h=>by
    simp only [Ii,List.mem_cons,List.not_mem_nil,or_false] at hq
    rcases hq with rfl
    ·exact (fun h=>h) h)) (lB (ce ad rfl) au))))))⟩) (lB (tlF ad ad) au)
   (fun q hq w v h=>by
    simp only [Ik,List.mem_cons,List.not_mem_nil,or_false] at hq
    rcases hq with rfl
    ·exact (fun h=>h) h)) au)))))))))))))
  (aK [.fact 0 (.one (.s)),.fact 1 (.one (.s))] ⟨Rw.Is 2 (If z k) n,Rw.Is 2 (If y l) m,trivial⟩) bg
def aac (z y:Nat->Int) (n m k l:Nat):List WP:=[Rw 2 (If z k) n,Rw 2 (If y l) m,Rw 2 (If z k) (tl z n),Rw 2 (If y l) (tl y m),Nz (tl z n)]
def aad:List Step:=[.base ⟨42,[0],[oS 2],false⟩,.base ⟨42,[1],[oS 3],false⟩,bQ [2] [oN 4] (aC 28),bQ [4,.lit (.ci .i64 0)] oT (ak .eql)]
def aae:List Out:=[oS 0,oS 1]
theorem aaf  (hm:m<=400000) (hk:k<=100000) (hl:l<=100000) (h1:(tl z n)=0) (hn:n<=400000:=by omega):aj (ph (aac z y n m k l)) prog ⟨17,[0,1],[⟨.one (.lit (.nl)),[]⟩],false⟩:=by
 have hz:=aL z n;have hy:=aL y m
 exact aV aae [⟨.one (.lit (.nl)),[]⟩] aad func17 (by kernel_rfl) (lB (iN (z:=z) (n:=n) (k:=k) (F:=(If z k)) ad bg (fun _ _ _ _ g h=>aE.kp h g) rfl) (lB (iN (z:=y) (n:=m) (k:=l) (F:=(If y l)) ad bg (fun _ _ _ _ g h=>aE.kp h g) rfl) (lB (aJ (F:=(If z k)) underlying28 ad rfl) (lB (ic ad) au))))
  (aK [.fact 0 (.one (.s)),.fact 1 (.one (.s))] ⟨Rw.Is 2 (If z k) n,Rw.Is 2 (If y l) m,trivial⟩) bg
def aag (z y:Nat->Int) (n m k l:Nat):List WP:=[Rw 2 (If z k) n,Rw 2 (If y l) m,Rw 2 (If z k) (tl z n),Rw 2 (If y l) (tl y m),Nz (tl z n),Nz (tl y m)]
def aah:List Step:=[.base ⟨42,[0],[oS 2],false⟩,.base ⟨42,[1],[oS 3],false⟩,bQ [2] [oN 4] (aC 28),bQ [4,.lit (.ci .i64 0)] oF (ak .eql),bQ [3] [oN 5] (aC 28),bQ [5,.lit (.ci .i64 0)] oT (ak .eql)]
def aai:List Out:=[oS 0,oS 1]
theorem aaj  (hm:m<=400000) (hk:k<=100000) (hl:l<=100000) (h1:0<(tl z n)) (h2:(tl y m)=0) (hn:n<=400000:=by omega):aj (ph (aag z y n m k l)) prog ⟨17,[0,1],[⟨.one (.lit (.nl)),[]⟩],false⟩:=by
 have hz:=aL z n;have hy:=aL y m
 exact aV aai [⟨.one (.lit (.nl)),[]⟩] aah func17 (by kernel_rfl) (lB (iN (z:=z) (n:=n) (k:=k) (F:=(If z k)) ad bg (fun _ _ _ _ g h=>aE.kp h g) rfl) (lB (iN (z:=y) (n:=m) (k:=l) (F:=(If y l)) ad bg (fun _ _ _ _ g h=>aE.kp h g) rfl) (lB (aJ (F:=(If z k)) underlying28 ad rfl) (lB (dg ad) (lB (aJ (F:=(If y l)) underlying28 ad rfl) (lB (ic ad) au))))))
  (aK [.fact 0 (.one (.s)),.fact 1 (.one (.s))] ⟨Rw.Is 2 (If z k) n,Rw.Is 2 (If y l) m,trivial⟩) bg
def conv (f g:Nat->Int):Nat->Int
 | 0=>f 0*g 0
 | p+1=>f 0*g (p+1)+conv (fun x=>f (x+1)) g p
theorem Im:∀(p:Nat) (f g:Nat->Int),conv f g (p+1)=conv f (fun x=>g (x+1)) p+f (p+1)*g 0
 | 0,f,g=>rfl
 | p+1,f,g=>by
  rw [conv,Im p (fun x=>f (x+1)) g]
  simp only [conv]
  omega
theorem fm:∀(p:Nat) (f g:Nat->Int),conv f g p=conv g f p
 | 0,f,g=>Int.mul_comm _ _
 | p+1,f,g=>by
  rw [conv,Im p g f,fm p (fun x=>f (x+1)) g,Int.mul_comm (f 0)]
  omega
theorem mG:∀{p:Nat}{f f' g g':Nat->Int},(∀i,i<=p->f i=f' i)->(∀i,i<=p->g i=g' i)->conv f g p=conv f' g' p
 | 0,_,_,_,_,hf,hg=>by simp only [conv];rw [hf 0 (Nat.le_refl _),hg 0 (Nat.le_refl _)]
 | p+1,_,_,_,_,hf,hg=>by
  simp only [conv]
  rw [hf 0 (by omega),hg (p+1) (Nat.le_refl _),mG (fun i hi=>hf (i+1) (by omega)) (fun i hi=>hg i (by omega))]
theorem gz:∀(p:Nat) (f f' g:Nat->Int),conv (fun x=>f x+f' x) g p=conv f g p+conv f' g p
 | 0,f,f',g=>Int.add_mul _ _ _
 | p+1,f,f',g=>by
  simp only [conv]
  rw [gz p,Int.add_mul]
  omega
theorem se (p:Nat) (f g g':Nat->Int):conv f (fun x=>g x+g' x) p=conv f g p+conv f g' p:=by
 rw [fm,gz,fm p g,fm p g']
theorem gN:∀(p:Nat) (c:Int) (f g:Nat->Int),conv (fun x=>c*f x) g p=c*conv f g p
 | 0,c,f,g=>Int.mul_assoc _ _ _
 | p+1,c,f,g=>by
  simp only [conv]
  rw [gN p,Int.mul_add,Int.mul_assoc]
theorem ga:∀(p:Nat) (a b c:Nat->Int),conv (conv a b) c p=conv a (conv b c) p
 | 0,a,b,c=>Int.mul_assoc _ _ _
 | p+1,a,b,c=>by
  have e:(fun x=>conv a b (x+1))=fun x=>a 0*b (x+1)+conv (fun y=>a (y+1)) b x:=rfl
  rw [conv,e,gz p (fun x=>a 0*b (x+1)) (conv (fun y=>a (y+1)) b) c,gN p (a 0) (fun x=>b (x+1)) c,ga p (fun y=>a (y+1)) b c]
  show _=a 0*conv b c (p+1)+conv (fun x=>a (x+1)) (conv b c) p
  simp only [conv]
  rw [Int.mul_add,Int.mul_assoc]
  omega
theorem PQ  (h:n<=i):upto n f i=0:=if_neg (by omega)
theorem Bd.tB {A B:Nat} (h:Bd A i) (k:Bd B i):Bd (A+B) (i+1):=by
 unfold Bd at *
 rw [Nat.pow_succ]
 generalize 4294967296 ^ i=M at *
 omega
def sumTo (f:Nat->Int):Nat->Int
 | 0=>0
 | n+1=>sumTo f n+f n
theorem sumTo_congr {f g:Nat->Int}:∀{n:Nat},(∀i,i<n->f i=g i)->sumTo f n=sumTo g n
 | 0,_=>rfl
 | n+1,h=>by simp only [sumTo];rw [sumTo_congr fun i hi=>h i (by omega),h n (by omega)]
theorem pX {f:Nat->Int}{n:Nat}:∀{k:Nat},(∀i,n<=i->i<n+k->f i=0)->sumTo f (n+k)=sumTo f n
 | 0,_=>rfl
 | k+1,h=>by
  rw [show n+(k+1)=(n+k)+1 by omega,sumTo,pX fun i h1 h2=>h i h1 (by omega),h (n+k) (by omega) (by omega)]
  omega
theorem In (f:Nat->Int):∀n,sumTo f (n+1)=f 0+sumTo (fun i=>f (i+1)) n
 | 0=>by simp [sumTo]
 | n+1=>by
  rw [sumTo,In f n]
  simp only [sumTo]
  omega
theorem nW:∀(p:Nat) (f g:Nat->Int),conv f g p=sumTo (fun x=>f x*g (p-x)) (p+1)
 | 0,f,g=>by simp [conv,sumTo]
 | p+1,f,g=>by
  rw [conv,nW p,In (fun x=>f x*g (p+1-x)) (p+1)]
  refine congrArg (f 0*g (p+1) + ·) (sumTo_congr fun i _=>?_)
  show f (i+1)*g (p-i)=f (i+1)*g (p+1-(i+1))
  rw [Nat.add_sub_add_right]
theorem PJ  (h:tl z n<=i:=by omega):upto n z i=0:=by
 unfold upto
 split
 ·rename_i hi
  exact gK z n i h hi
 ·rfl
theorem Io {z y:Nat->Int}{l m:Nat} (hl:0<l):∀{j},j<=m->eS z y l j (m+l-1)=0
 | 0,_=>rfl
 | j+1,h=>by
  rw [eS,Io hl (by omega),if_neg (by omega)];rfl
theorem aak  (hl:0<l):eS z y l (m+1) (m+l-1)=z m*y (l-1):=by
 rw [eS,Io hl (Nat.le_refl _),if_pos (by omega),show m+l-1-m=l-1 by omega,Int.zero_add]
def mulL (z:Nat->Int) (n:Nat) (y:Nat->Int) (m:Nat):List Int:=if tl z n=0∨tl y m=0 then [] else mk (tl z n+tl y m-1) (eS z y (tl y m) (tl z n))
theorem fG:∀{f g:Nat->Int},(∀i,f i=0)->∀p,conv f g p=0
 | _,_,h,0=>by simp only [conv];rw [h,Int.zero_mul]
 | _,_,h,p+1=>by
  simp only [conv]
  rw [h,Int.zero_mul,Int.zero_add,fG (fun i=>h (i+1)) p]
theorem je {g:Nat->Int}{a b:Nat} (hf:∀i,a<=i->f i=0) (hg:∀i,b<=i->g i=0) (h:a+b<=p+1:=by omega):conv f g p=0:=by
 rw [nW,show p+1=0+(p+1) by omega,pX (n:=0) fun i _ hi=>?_]
 ·rfl
 ·rcases Nat.lt_or_ge i a with h1 | h1
  ·rw [hg _ (by omega),Int.mul_zero]
  ·rw [hf _ h1,Int.zero_mul]
theorem aal  (h1:0<tl z n:=by omega) (h2:0<tl y m:=by omega):(mulL z n y m).length=tl z n+tl y m-1:=by
 unfold mulL
 rw [if_neg (by omega),gI]
theorem Ip  (h1:0<tl z n:=by omega) (h2:0<tl y m:=by omega):ae (mulL z n y m) (tl z n+tl y m-2)=z (tl z n-1)*y (tl y m-1):=by
 unfold mulL
 rw [if_neg (by omega),eG,if_pos (by omega)]
 obtain ⟨a,ha⟩:∃a,tl z n=a+1:=⟨tl z n-1,by omega⟩
 have:=aak (z:=z) (y:=y) (l:=tl y m) (m:=a) h2
 rw [ha,show a+1+tl y m-2=a+tl y m-1 by omega,this,Nat.add_sub_cancel]
theorem DX (z:Nat->Int) (n:Nat) (y:Nat->Int) (m:Nat):mO (mulL z n y m):=fun h=>by
 by_cases h0:tl z n=0∨tl y m=0
 ·unfold mulL at h
  rw [if_pos h0] at h
  simp at h
 ·rw [aal,show tl z n+tl y m-1-1=tl z n+tl y m-2 by omega,Ip]
  exact Int.mul_ne_zero (fb z n (by omega)) (fb y m (by omega))
theorem Iq {z y:Nat->Int}{l k k' c n:Nat} (hz:∀i,i<n->Bd (z i).natAbs k) (hy:∀i,i<l->Bd (y i).natAbs k'):∀{j},j<=n->j<=c->∀p,Bd (eS z y l j p).natAbs (k+k'+j)
 | 0,_,_,p=>Nat.pow_pos (by omega)
 | j+1,h1,h2,p=>by
  have h3:=Iq (c:=c) hz hy (j:=j) (by omega) (by omega) p
  rw [eS]
  have h4:Bd (if j<=p∧p<j+l then z j*y (p-j) else 0).natAbs (k+k'+j):=by
   split
   ·rw [Int.natAbs_mul]
    exact (Bd.mul (hz j (by omega)) (hy _ (by omega))).more (by omega)
   ·exact Nat.pow_pos (by omega)
  exact (Bd.tB h3 h4).le (Int.natAbs_add_le _ _)
theorem Ir {k' c:Nat} (hz:∀i,i<n->Bd (z i).natAbs k) (hy:∀i,i<l->Bd (y i).natAbs k') (h1:j<n) (h2:n<=c) (hi:i<=l) (p:Nat):Bd (dM z y l j i p).natAbs (k+k'+c+1):=by
 have h3:=Iq (c:=c) hz hy (j:=j) (by omega) (by omega) p
 have h4:Bd (if j<=p∧p<j+i then z j*y (p-j) else 0).natAbs (k+k'+j):=by
  split
  ·rw [Int.natAbs_mul]
   exact (Bd.mul (hz j h1) (hy _ (by omega))).more (by omega)
  ·exact Nat.pow_pos (by omega)
 exact ((Bd.tB h3 h4).le (Int.natAbs_add_le _ _)).more (by omega)
section
variable {Φ:PH}{q x c:Nat}{L:List Int}
theorem MZ (hp:∀w v,Φ p w v->Rw 2 (If z k) n w v) (hx:Φ x=Rw 2 (Nf (ae L) k) L.length) (hn:n<=1000000) (hk:k<=500000) (hL:aG (mk n z)=L):aj Φ prog ⟨93,[.fact p],[oS x],false⟩:=
 aW (ZO hn hk) ⟨hp,trivial⟩ ⟨⟨rfl,⟨rfl,rfl,fun _ _ h=>hx▸hL▸h⟩,trivial⟩,trivial⟩
theorem YH (hp:∀w v,Φ p w v->Rw 2 (If z k) n w v) (hq:∀w v,Φ q w v->Rw 2 (If y l) m w v) (hx:Φ x=Rw 2 (Nf (ae L) (k+l+1)) L.length) (hn:n<=1000000) (hm:m<=1000000) (hk:k<=200000) (hl:l<=200000) (hL:aG (mk (max n m) (fun i=>upto n z i-upto m y i))=L):aj Φ prog ⟨104,[.fact p,.fact q],[oS x],false⟩:=
 aW (ZS hn hm hk hl) ⟨hp,hq,trivial⟩ ⟨⟨rfl,⟨rfl,rfl,fun _ _ h=>hx▸hL▸h⟩,trivial⟩,trivial⟩
theorem Iu {v:Value} (h:Rw 2 (If z k) n w v) (i:Nat) (hi:i<n):Bd (z i).natAbs k:=by
 obtain ⟨_,_,_,_,h1⟩:=h
 obtain ⟨_,_,_,l,_,_,h2⟩:=h1 i hi
 exact aE.bd' h2
theorem Iv {X:Nat->Prop}{us:List Value} (hx:Φ x=Rw 2 (Nf (ae L) K) L.length) (hL:L = []) (h:bp Φ X w [⟨.one (.lit .nl),[]⟩] us):bp Φ X w [oS x] us:=by
 subst hL
 match us,h with
 | [u],h=>
  obtain rfl:u = .slice none 0 0:=h.1.1.1
  exact cL ⟨⟨_,_,_,rfl⟩,fun _ h=>by cases h⟩ hx fun w1 _=>Rw.nil 2 _ w1
theorem aam (hp:∀w v,Φ p w v->Rw 2 (If z k) n w v) (hq:∀w v,Φ q w v->Rw 2 (If y l) m w v) (hx:Φ x=Rw 2 (Nf (ae L) (k+l+c+1)) L.length) (hL:mulL z n y m=L) (hn:n<=c:=by omega) (hm:m<=400000:=by omega) (hc:c<=1000:=by omega) (hk:k<=100000:=by omega) (hl:l<=100000:=by omega):aj Φ prog ⟨17,[.fact p,.fact q],[oS x],false⟩:=fun X w vs hX ha=>by
 match vs,ha with
 | [v,u],ha=>
  have hz:=Iu (hp _ _ (ha.1 w (Off.refl _ _)))
  have hy:=Iu (hq _ _ (ha.2.1 w (Off.refl _ _)))
  have hzl:=aL z n
  have hyl:=aL y m
  rcases Nat.eq_zero_or_pos (tl z n) with h1 | h1
  ·exact (aW (outs:=[⟨.one (.lit .nl),[]⟩]) (Φ:=Φ) (ar:=[.fact p,.fact q]) (aaf (z:=z) (y:=y) (n:=n) (m:=m) (k:=k) (l:=l) hm hk hl h1) ⟨hp,hq,trivial⟩ ⟨⟨rfl,trivial⟩,trivial⟩ X w [v,u] hX ha).mono fun e w' ⟨hg,us,he,h2⟩=>⟨hg,us,he,Iv hx (by rw [<- hL,mulL,if_pos (.inl h1)]) h2⟩
  rcases Nat.eq_zero_or_pos (tl y m) with h2 | h2
  ·exact (aW (outs:=[⟨.one (.lit .nl),[]⟩]) (Φ:=Φ) (ar:=[.fact p,.fact q]) (aaj (z:=z) (y:=y) (n:=n) (m:=m) (k:=k) (l:=l) hm hk hl h1 h2) ⟨hp,hq,trivial⟩ ⟨⟨rfl,trivial⟩,trivial⟩ X w [v,u] hX ha).mono fun e w' ⟨hg,us,he,h2'⟩=>⟨hg,us,he,Iv hx (by rw [<- hL,mulL,if_pos (.inr h2)]) h2'⟩
  ·refine aW (Φ:=Φ) (ar:=[.fact p,.fact q]) (outs:=[oS x]) (aab (z:=z) (y:=y) (n:=n) (m:=m) (k:=k) (l:=l) (K:=k+l+c+1) (by omega) hm hk hl (by omega) h1 h2 fun j i p hj hi=>Ir (n:=tl z n) (l:=tl y m) (c:=c) (fun i hi=>hz i (by omega)) (fun i hi=>hy i (by omega)) hj (by omega) hi p) ⟨hp,hq,trivial⟩ ⟨⟨rfl,⟨rfl,rfl,fun w v h=>?_⟩,trivial⟩,trivial⟩ X w [v,u] hX ha
   rw [hx,<- hL,mulL,if_neg (by omega),gI]
   exact Rw.to (ah.rw (e:=57) (F:=fun i w v=>ai w v (eS z y (tl y m) (tl z n) i) (k+l+c+1)) h) fun i w v hi h=>h.eq (by rw [eG,if_pos hi])
end
end Go.Proofs.YtomamliepbhegaaGreat.Sym
