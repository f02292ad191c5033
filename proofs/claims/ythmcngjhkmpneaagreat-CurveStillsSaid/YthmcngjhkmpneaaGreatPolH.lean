/- poly.each and both (Norm, Neg, Add, Sub), Mul. Products of polynomials as sums of products: they ask for no order, nor for brackets. poly.Same; contracts of Norm, Neg, Add, Sub, Mul. -/
import Derived.Test.YthmcngjhkmpneaaGreatPolX
set_option maxRecDepth 100000
namespace Go.Proofs.YthmcngjhkmpneaaGreat.Sym
open Go.RowKit
def cV (z y:Nat->Int) (l:Nat):Nat->Nat->Int
 | 0,_=>0
 | j+1,p=>cV z y l j p+(if j<=p∧p<j+l then z j*y (p-j) else 0)
def qM (z:Nat->Int) (n k:Nat):List WP:=[Rw 2 (If z k) n,Nz n,am 2 51 (Nf (upto 0 z) k) n,Nz n,am 2 51 (Nf (upto n z) k) n,Rw 2 (Nf (upto n z) k) (tl (upto n z) n)]
def Ih (z:Nat->Int) (n k:Nat) (j:Nat):List WP:=[Nz j,am 2 51 (Nf (upto j z) k) n,fun _ _=>True,Ptr 2 (Iw (z j) k),Iw (z j) k,Nw (z j) k,At 2,Ptr 2 (Nw ((upto j z) j) k),fun w v=>am 2 51 (fun ι w v=>ak w v ((upto (j+1) z) ι) k) n w v,Nz (j+1)]
def wY:bj:=⟨[0,1,4,8,9,10,11,12],[(.slot 13,.i),(.slot 5,.s)],[(.one 0,6),(.one 1,.bZ [1] 7),(.one 1,.lo 1)],[.closed (.one (.ci .i64 0)),.frm 2,.frm 0],6,[(7,4)]⟩
def wZ:List Step:=[bQ [.fact 6,.fact 3] oT (au .lss),
   bQ [.fact 0,.fact 6] [oP 9] (aO 28),
   bQ [.fact 9] [oI 10] (aS 51),
   .base ⟨93,[.fact 10],[oI 11],false⟩,
   .base ⟨0,[.fact 7,.fact 6],[oP 13],.joint [1] 12 (aO 28)⟩,
   .base ⟨0,[.fact 7,.fact 6,.any,.fact 11],[oS 14],.put [] 1 0 12 (eN 51 (.tmp 18) (.tmp 19))⟩,
   bQ [.fact 6,.lit (.ci .i64 1)] [oN 15] (au .add)]
def Ii:List Step:=[bQ [.fact 6,.fact 3] oF (au .lss)]
def Ij:List Step:=[bQ [.fact 0] [oN 1] (aI 28),
   .base ⟨0,[.fact 1,.fact 1],[oS 2],.loose [] 1 0 (ff 28)⟩,
   bQ [.fact 0] [oN 3] (aI 28),
   .loop wY [(wZ,[.frm 15,.frm 14,.frm 0])] Ii,
   .base ⟨66,[.fact 4],[oS 5],.c9 [1] false⟩]
def Ik:List Out:=[oS 0,⟨.one (.lit (.fn 93)),[]⟩]
theorem Il {z:Nat->Int}{n k:Nat} (hn:n<=1000000) (hk:k<=500000):ai (ph (qM z n k)) Tryz.prog ⟨135,[.fact 0,.lit (.fn 93)],[oS 5],false⟩:=by
 skip
 exact bg Ik [oS 5] Ij Tryz.func135 (by kernel_rfl)
  (lB (a9 (F:=(If z k)) Tryz.underlying28 ad rfl)
   (lB (rh (n:=n) (F:=(Nf (upto 0 z) k)) ad (by omega) (fun i w=>ak.zero w k) rfl)
   (lB (a9 (F:=(If z k)) Tryz.underlying28 ad rfl)
   (bN (counted n (fun j=>ph (qM z n k ++ Ih z n k j)) (fun _=>0) (fun j p hp=>bO (show p<(qM z n k).length from hp)) ⟨fun _=>rfl,ad,bp,trivial⟩ (fun j hj=>by
   skip
   exact ⟨(wZ,[.frm 15,.frm 14,.frm 0]),rfl,⟨ad,ad,bp,trivial⟩,(lB (cA ad ad)
   (lB (b6 (i:=j) (F:=(If z k)) Tryz.underlying28 (by kernel_rfl) ad ad (by omega) rfl)
   (lB (bK (sz:=2) (F:=Iw (z j) k) (by kernel_rfl) (by kernel_rfl) ad (fun _ _ _ g h=>aj.kp h g) (fun _ _ h=>aj.is h) rfl)
   (lB (uD iI rfl (by omega) rfl)
   (lB (dY (i:=j) (sz:=2) (n:=n) (F:=(Nf (upto j z) k)) Tryz.underlying28 (by kernel_rfl) (fun _ _ h=>am.arr h) ad (by omega) rfl rfl)
   (lB (fB (i:=j) (n:=n) (F:=(fun ι w v=>ak w v ((upto j z) ι) k)) (F':=(fun ι w v=>ak w v ((upto (j+1) z) ι) k)) (G:=Nw (z j) k) (.tmp 18) (.tmp 19) (by kernel_rfl) ad ad (by omega) ad rfl (fun _ _ h=>ak.cells h) (fun _ _ _ _ g h=>ak.kp h g) (fun _ _ _ g h=>ak.kp h g) (fun i w v hi h=>by rw [kH hi];exact h) (fun w v h=>h.eq (kJ j z).symm) rfl)
   (lB (cO ad (by omega) rfl (by omega) (by omega))
   aC)))))))⟩)
   (lB (tlF ad ad)
   aC)
   (fun q hq w v h=>by
    simp only [wY,List.mem_cons,List.not_mem_nil,or_false] at hq
    rcases hq with rfl
    ·exact (fun h=>h) h)) (lB (dZ [1] (ng (z:=(upto n z)) (n:=n) (k:=k) (F:=(Nf (upto n z) k)) (fun _ _ h=>am.rw h) (fun _ _ _ h=>ak.i h) (fun _ _ _ _ g h=>ak.kp h g) rfl (by omega) (by omega)))
   aC)))))
  (aK [.fact 0 (.one (.s)),.lit (.fn 93)] ⟨Rw.Is 2 (If z k) n,(fun _ h=>by cases h),trivial⟩) bh
section
variable {Φ:PH}{p q x n m k l:Nat}{z y:Nat->Int}{L:List Int}
theorem Im (hp:∀w v,Φ p w v->Rw 2 (If z k) n w v) (hx:Φ x=Rw 2 (Nf (an L) k) L.length) (hn:n<=1000000) (hk:k<=500000) (hL:aP (mk n z)=L):ai Φ Tryz.prog ⟨135,[.fact p,.lit (.fn 93)],[oS x],false⟩:=
 bi (Il hn hk) ⟨hp,rfl,trivial⟩ ⟨⟨rfl,⟨rfl,rfl,fun _ _ h=>hx▸hL▸qN h⟩,trivial⟩,trivial⟩
end
def In (z:Nat->Int) (n k:Nat):List WP:=[Rw 2 (If z k) n,Rw 2 (Nf (an (aP (mk n z))) k) ((aP (mk n z)).length)]
def Io:List Step:=[.base ⟨135,[.fact 0,.lit (.fn 93)],[oS 1],false⟩]
def Ip:List Out:=[oS 0]
theorem Iq {z:Nat->Int}{n k:Nat} (hn:n<=1000000) (hk:k<=500000):ai (ph (In z n k)) Tryz.prog ⟨89,[.fact 0],[oS 1],false⟩:=by
 skip
 exact bg Ip [oS 1] Io Tryz.func89 (by kernel_rfl)
  (lB (Im (Rw.To 2 (If z k) n (fun _ _ _ _ h=>h)) rfl (by omega) (by omega) rfl)
   aC)
  (aK [.fact 0 (.one (.s))] ⟨Rw.Is 2 (If z k) n,trivial⟩) bh
section
variable {z y:Nat->Int}{l j i p:Nat}
end
def conv (f g:Nat->Int):Nat->Int
 | 0=>f 0*g 0
 | p+1=>f 0*g (p+1)+conv (fun x=>f (x+1)) g p
theorem mn {n i:Nat}{f:Nat->Int} (h:n<=i):upto n f i=0:=if_neg (by omega)
def sumTo (f:Nat->Int):Nat->Int
 | 0=>0
 | n+1=>sumTo f n+f n
theorem sumTo_congr {f g:Nat->Int}:∀{n:Nat},(∀i,i<n->f i=g i)->sumTo f n=sumTo g n
 | 0,_=>rfl
 | n+1,h=>by simp only [sumTo];rw [sumTo_congr fun i hi=>h i (by omega),h n (by omega)]
theorem nh {f:Nat->Int}{n:Nat}:∀{k:Nat},(∀i,n<=i->i<n+k->f i=0)->sumTo f (n+k)=sumTo f n
 | 0,_=>rfl
 | k+1,h=>by
  rw [show n+(k+1)=(n+k)+1 by omega,sumTo,nh fun i h1 h2=>h i h1 (by omega),h (n+k) (by omega) (by omega)]
  omega
theorem xc (f:Nat->Int):∀n,sumTo f (n+1)=f 0+sumTo (fun i=>f (i+1)) n
 | 0=>by simp [sumTo]
 | n+1=>by
  rw [sumTo,xc f n]
  simp only [sumTo]
  omega
theorem qO:∀(p:Nat) (f g:Nat->Int),conv f g p=sumTo (fun x=>f x*g (p-x)) (p+1)
 | 0,f,g=>by simp [conv,sumTo]
 | p+1,f,g=>by
  rw [conv,qO p,xc (fun x=>f x*g (p+1-x)) (p+1)]
  refine congrArg (f 0*g (p+1) + ·) (sumTo_congr fun i _=>?_)
  show f (i+1)*g (p-i)=f (i+1)*g (p+1-(i+1))
  rw [Nat.add_sub_add_right]
theorem xd (z y:Nat->Int) (l p:Nat):∀j,cV z y l j p=sumTo (fun x=>if x<=p∧p<x+l then z x*y (p-x) else 0) j
 | 0=>rfl
 | j+1=>by rw [cV,xd z y l p j];rfl
theorem qP {z:Nat->Int}{n i:Nat} (h:tl z n<=i):upto n z i=0:=by
 unfold upto
 split
 ·rename_i hi
  exact fX z n i h hi
 ·rfl
theorem BN (z y:Nat->Int) (n m p:Nat):cV z y (tl y m) (tl z n) p=conv (upto n z) (upto m y) p:=by
 rw [xd,qO]
 have hz:=aV z n
 have hy:=aV y m
 have e1:sumTo (fun x=>if x<=p∧p<x+tl y m then z x*y (p-x) else 0) (tl z n)=sumTo (fun x=>if x<=p then upto n z x*upto m y (p-x) else 0) (tl z n):=sumTo_congr fun x hx=>by
  by_cases h1:x<=p
  ·rw [if_pos h1,fH (by omega)]
   by_cases h2:p<x+tl y m
   ·rw [if_pos ⟨h1,h2⟩,fH (by omega)]
   ·rw [if_neg (fun h=>h2 h.2),qP (by omega),Int.mul_zero]
  ·rw [if_neg (fun h=>h1 h.1),if_neg h1]
 have e2:sumTo (fun x=>upto n z x*upto m y (p-x)) (p+1)=sumTo (fun x=>if x<=p then upto n z x*upto m y (p-x) else 0) (p+1):=sumTo_congr fun x hx=>(if_pos (by omega)).symm
 rw [e1,e2]
 rcases Nat.le_total (tl z n) (p+1) with h | h
 ·have:=nh (f:=fun x=>if x<=p then upto n z x*upto m y (p-x) else 0) (n:=tl z n) (k:=p+1-tl z n) fun i h1 _=>by
   rw [qP h1,Int.zero_mul]
   split <;> rfl
  rw [show tl z n+(p+1-tl z n)=p+1 by omega] at this
  exact this.symm
 ·have:=nh (f:=fun x=>if x<=p then upto n z x*upto m y (p-x) else 0) (n:=p+1) (k:=tl z n-(p+1)) fun i h1 _=>if_neg (by omega)
  rw [show p+1+(tl z n-(p+1))=tl z n by omega] at this
  exact this
theorem xe {z y:Nat->Int}{l m:Nat} (hl:0<l):∀{j},j<=m->cV z y l j (m+l-1)=0
 | 0,_=>rfl
 | j+1,h=>by
  rw [cV,xe hl (by omega),if_neg (by omega)];rfl
theorem tA {z y:Nat->Int}{l m:Nat} (hl:0<l):cV z y l (m+1) (m+l-1)=z m*y (l-1):=by
 rw [cV,xe hl (Nat.le_refl _),if_pos (by omega),show m+l-1-m=l-1 by omega,Int.zero_add]
theorem xf:∀{f g:Nat->Int},(∀i,f i=0)->∀p,conv f g p=0
 | _,_,h,0=>by simp only [conv];rw [h,Int.zero_mul]
 | _,_,h,p+1=>by
  simp only [conv]
  rw [h,Int.zero_mul,Int.zero_add,xf (fun i=>h (i+1)) p]
theorem BO {f g:Nat->Int}{a b p:Nat} (hf:∀i,a<=i->f i=0) (hg:∀i,b<=i->g i=0) (h:a+b<=p+1):conv f g p=0:=by
 rw [qO,show p+1=0+(p+1) by omega,nh (n:=0) fun i _ hi=>?_]
 ·rfl
 ·rcases Nat.lt_or_ge i a with h1 | h1
  ·rw [hg _ (by omega),Int.mul_zero]
  ·rw [hf _ h1,Int.zero_mul]
section
variable {Φ:PH}{p q x n m k l c:Nat}{z y:Nat->Int}{L:List Int}
theorem A5 (hp:∀w v,Φ p w v->Rw 2 (If z k) n w v) (hx:Φ x=Rw 2 (Nf (an L) k) L.length) (hn:n<=1000000) (hk:k<=500000) (hL:aP (mk n z)=L):ai Φ Tryz.prog ⟨89,[.fact p],[oS x],false⟩:=
 bi (Iq hn hk) ⟨hp,trivial⟩ ⟨⟨rfl,⟨rfl,rfl,fun _ _ h=>hx▸hL▸h⟩,trivial⟩,trivial⟩
end
end Go.Proofs.YthmcngjhkmpneaaGreat.Sym
