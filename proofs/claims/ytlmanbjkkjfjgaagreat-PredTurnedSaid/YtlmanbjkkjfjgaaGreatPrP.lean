/- curve.Make for every den -/
import Derived.Test.YtlmanbjkkjfjgaaGreatPrM
set_option maxRecDepth 100000
namespace Go.Proofs.YtlmanbjkkjfjgaaGreat.Sym
open Go.Proofs.Tryz
open Go.RowKit
variable {w:World}{v:Value}{D D0 D1 D2 D3 a b d d' d0 d1 d2:Int}{K c k l nx ny p p0 p1 p2 p3 q q0 r0 x:Nat}{y:Nat->Int}{P Q X X0 X1 X2 X3 Y Y0 Y1 Y2 Y3 z:List Int}{Φ:PH}{L:Nat->List Int}{J:List Nat}
theorem ak.ab7 {k:Nat} (h:ak w v d k) (hd:d<0):(cC.agg [.lit (.cb true),.s]).is v:=by obtain ⟨s,n,c,rfl⟩:=BD h;exact ⟨[_,_],rfl,by rw [decide_eq_true hd];rfl,⟨_,_,_,rfl⟩,trivial⟩
def ab8 (x y:Nat->Int) (nx ny k:Nat) (d:Int) (X Y:List Int):List WP:=[Rw 2 (If x k) nx,Rw 2 (If y k) ny,Nw d k,Rw 1 (je (aE x y) (aE nx ny) k) 2,aA 2 28 (If (ae (bj (aE x y) (aE nx ny) 2)) k) ((bj (aE x y) (aE nx ny) 2).length),aA 2 28 (If (cJ (aE x y) (aE nx ny) d) k) ((bj (aE x y) (aE nx ny) 2).length+1),Nw (aT (cJ (aE x y) (aE nx ny) d) ((bj (aE x y) (aE nx ny) 2).length+1):Int) k,Nw (-(aT (cJ (aE x y) (aE nx ny) d) ((bj (aE x y) (aE nx ny) 2).length+1):Int)) k,Nw (d / (-(aT (cJ (aE x y) (aE nx ny) d) ((bj (aE x y) (aE nx ny) 2).length+1):Int))) k,Rw 2 (Nf (ae X) k) X.length,Rw 2 (Nf (ae Y) k) Y.length]
def ab9:List Step:=[.base ⟨0,[.any,0,1],[oS 3],.fresh [] (dl 110 2)⟩,.base ⟨104,[3],[oS 4],.eM [] 1⟩,.base ⟨0,[4,.row 2 [2]],[oS 5],.loose [] 1 0 (cA 25 25)⟩,.base ⟨103,[5],[oI 6],.dR [1] false⟩,.base ⟨105,[6],[oI 7],.dR [1] false⟩,.base ⟨106,[2,7],[oI 8,oL (Ai 0)],.dR [1] true⟩,.base ⟨107,[0,7],[oS 9],.dR [1] false⟩,.base ⟨107,[1,7],[oS 10],.dR [1] false⟩]
def aca:List Out:=[oS 0,oS 1,⟨.agg [.lit (.cb true),.s],[(0,0,2)]⟩]
theorem acb {x:Nat->Int} (hx:nx<=400000) (hy:ny<=400000) (hk:k<=400000) (hd:d≠0) (hX:dvL x nx (-((aT (cJ (aE x y) (aE nx ny) d) ((bj (aE x y) (aE nx ny) 2).length+1):Nat):Int))=X) (hY:dvL y ny (-((aT (cJ (aE x y) (aE nx ny) d) ((bj (aE x y) (aE nx ny) 2).length+1):Nat):Int))=Y):aj (ph (ab8 x y nx ny k d X Y)) prog ⟨65,[0,1,.parts (.agg [.lit (.cb true),.s]) [(0,0,2)]],[⟨.agg [.s,.s,.b,.s],[(0,1,9),(1,1,10),(2,2,8)]⟩],false⟩:=by
 have hs:∀j,j<=2->(bj (aE x y) (aE nx ny) j).length<=1000000:=λ_ hj=>Nat.le_trans (Bs x y hj) (by omega);have hl:=hs 2 (by omega);have hg0:(-((aT (cJ (aE x y) (aE nx ny) d) ((bj (aE x y) (aE nx ny) 2).length+1):Nat):Int))≠0:=Int.neg_ne_zero.2 (sm hd);have hgd:(-((aT (cJ (aE x y) (aE nx ny) d) ((bj (aE x y) (aE nx ny) 2).length+1):Nat):Int))∣d:=Int.neg_dvd.2 vW;have hgx:∀i,i<tl x nx->(-((aT (cJ (aE x y) (aE nx ny) d) ((bj (aE x y) (aE nx ny) 2).length+1):Nat):Int))∣x i:=λi hi=>Int.neg_dvd.2 (Bu (Nat.lt_of_lt_of_le hi (bg _ _)));have hgy:∀i,i<tl y ny->(-((aT (cJ (aE x y) (aE nx ny) d) ((bj (aE x y) (aE nx ny) 2).length+1):Nat):Int))∣y i:=λi hi=>Int.neg_dvd.2 (Bv (Nat.lt_of_lt_of_le hi (bg _ _)));exact adL aca [⟨.agg [.s,.s,.b,.s],[(0,1,9),(1,1,10),(2,2,8)]⟩] ab9 func65 (by kernel_rfl) (lB (Bw (z:=x) (y:=y) (n:=nx) (m:=ny) (Rw.To 2 (If x k) nx (λ_ _ _ _ h=>h)) (Rw.To 2 (If y k) ny (λ_ _ _ _ h=>h)) rfl) (lB (Bz (n:=2) ad rfl hs) (lB (km (n:=(bj (aE x y) (aE nx ny) 2).length) (F:=(λι w v=>aD w v ((cJ (aE x y) (aE nx ny) d) ι) k)) (λ_ _ _ _ g h=>aD.kp h g) (λ_ _ h=>aA.to (sz:=2) (e:=28) (n:=(bj (aE x y) (aE nx ny) 2).length) (F:=(λι w v=>aD w v ((ae (bj (aE x y) (aE nx ny) 2)) ι) k)) (G:=(λι w v=>aD w v ((cJ (aE x y) (aE nx ny) d) ι) k)) h λ_ _ _ ha h=>by rw [<- sk ha];exact h) (λ_ _ h=>by rw [<- qe];exact ak.i h) (λ_ _ h=>ak.dQ h) rfl) (lB (eS [1] (BI ad rfl)) (lB (eS [1] (acc nI rfl rfl)) (lB (eS [1] (wd nI nI rfl (hg0) (hgd) rfl)) (lB (eS [1] (sn (z:=x) (n:=nx) (Rw.To 2 (If x k) nx (λ_ _ _ _ h=>h)) nI rfl (λ_=>hg0) (hgx) (hX))) (lB (eS [1] (sn (z:=y) (n:=ny) (Rw.To 2 (If y k) ny (λ_ _ _ _ h=>h)) nI rfl (λ_=>hg0) (hgy) (hY))) au))))))))
  (aP [.fact 0 (.one (.s)),.fact 1 (.one (.s)),.parts (.agg [.lit (.cb true),.s]) [(0,0,2)]] ⟨Rw.Is 2 (If x k) nx,Rw.Is 2 (If y k) ny,trivial,trivial⟩) aV
section
variable {r:Nat}{x:Nat->Int}
theorem acd (hp:Im Φ p (Rw 2 (If x k) nx)) (hq:Im Φ q (Rw 2 (If y k) ny)) (hr:Im Φ r (Nw d k)) (h0:Φ p0=Rw 2 (Nf (ae X) k) X.length) (h1:Φ p1=Rw 2 (Nf (ae Y) k) Y.length) (h2:Φ p2=Nw D k) (hx:nx<=400000) (hy:ny<=400000) (hk:k<=400000) (hd:d≠0) (hC:gk x y nx ny d X Y D):aj Φ prog ⟨65,[.fact p,.fact q,.fact r],[⟨.agg [.s,.s,.b,.s],[(0,1,p0),(1,1,p1),(2,2,p2)]⟩],false⟩:=by
 obtain ⟨hX,hY,hD⟩:=hC;have he:ceE d=d:=if_neg hd;rw [he] at hX hY hD;rcases Int.lt_or_gt_of_ne hd with h | h
 ·obtain ⟨-,e1,e2,e3⟩:=Jr (s:=-1) (x:=x) (y:=y) (n:=nx) (m:=ny) hd (.inr rfl) (Int.neg_one_mul _);refine aU (acb (x:=x) (y:=y) (nx:=nx) (ny:=ny) (k:=k) (d:=d) hx hy hk hd (e1.trans hX) (e2.trans hY)) ⟨hp,hq,⟨λ_ _ h'=>ak.ab7 (hr _ _ h') h,hr,trivial⟩,trivial⟩ ⟨⟨rfl,⟨rfl,rfl,λ_ _ h=>h0▸h⟩,⟨rfl,rfl,λ_ _ h=>h1▸h⟩,⟨rfl,rfl,λ_ _ h=>by rw [h2,<- hD,<- e3];exact h⟩,trivial⟩,trivial⟩
 ·obtain ⟨-,e1,e2,e3⟩:=Jr (s:=1) (x:=x) (y:=y) (n:=nx) (m:=ny) hd (.inl rfl) (Int.one_mul _);exact Og hp hq hr h0 h1 h2 hx hy hk h (e1.trans hX) (e2.trans hY) (e3.trans hD)
end
def ace (x y:Nat->Int) (nx ny k:Nat) (d D:Int) (X Y:List Int):List WP:=[Rw 2 (If x k) nx,Rw 2 (If y k) ny,Iw d k,Nw d k,Rw 2 (Nf (ae X) k) X.length,Rw 2 (Nf (ae Y) k) Y.length,Nw D k]
def acf:List Step:=[cB 63 [2] [oI 3],
   cB 64 [3] oF,
   cB 65 [0,1,3] [⟨.agg [.s,.s,.b,.s],[(0,1,4),(1,1,5),(2,2,6)]⟩]]
def acg:List Out:=[oS 0,oS 1,oI 2]
theorem ach {x:Nat->Int} (hx:nx<=400000) (hy:ny<=400000) (hk:k<=400000) (hd:d≠0) (hC:gk x y nx ny d X Y D):aj (ph (ace x y nx ny k d D X Y)) prog ⟨33,[0,1,2],[⟨.agg [.s,.s,.b,.s],[(0,1,4),(1,1,5),(2,2,6)]⟩,oL (Ai 0)],true⟩:=adL acg [⟨.agg [.s,.s,.b,.s],[(0,1,4),(1,1,5),(2,2,6)]⟩,oL (Ai 0)] acf func33 (by kernel_rfl) (lB (oB iI rfl rfl) (lB (uo nN (decide_eq_false hd)) (lB (acd (x:=x) (y:=y) (nx:=nx) (ny:=ny) (d:=d) (X:=X) (Y:=Y) (D:=D) (k:=k) (Rw.To 2 (If x k) nx (λ_ _ _ _ h=>h)) (Rw.To 2 (If y k) ny (λ_ _ _ _ h=>h)) ad rfl rfl rfl hx hy hk hd hC) au)))
  (aP [.fact 0 (.one (.s)),.fact 1 (.one (.s)),.fact 2 (.agg [.b,.s])] ⟨Rw.Is 2 (If x k) nx,Rw.Is 2 (If y k) ny,λ_ _ h=>aD.is h,trivial⟩) aV
def aci (x y:Nat->Int) (nx ny k:Nat):List WP:=[Rw 2 (If x k) nx,Rw 2 (If y k) ny,Iw (0:Int) k,Nw (0:Int) k]
def acj:List Step:=[cB 63 [2] [oI 3],
   cB 64 [3] oT]
def ack:List Out:=[oS 0,oS 1,oI 2]
theorem acl {x:Nat->Int} (hk:k<=400000):aj (ph (aci x y nx ny k)) prog ⟨33,[0,1,2],[⟨.agg [.lit (.nl),.lit (.nl),.lit (.cb false),.lit (.nl)],[]⟩,oL (Ai 2)],true⟩:=adL ack [⟨.agg [.lit (.nl),.lit (.nl),.lit (.cb false),.lit (.nl)],[]⟩,oL (Ai 2)] acj func33 (by kernel_rfl) (lB (oB iI rfl rfl) (lB (uo nN rfl) au))
  (aP [.fact 0 (.one (.s)),.fact 1 (.one (.s)),.fact 2 (.agg [.b,.s])] ⟨Rw.Is 2 (If x k) nx,Rw.Is 2 (If y k) ny,λ_ _ h=>aD.is h,trivial⟩) aV
section
variable {r:Nat}{x:Nat->Int}
theorem acm (hp:Im Φ p (Rw 2 (If x k) nx)) (hq:Im Φ q (Rw 2 (If y k) ny)) (hr:Im Φ r (Iw d k)) (h0:Φ p0=Rw 2 (Nf (ae X) k) X.length) (h1:Φ p1=Rw 2 (Nf (ae Y) k) Y.length) (h2:Φ p2=Nw D k) (hx:nx<=400000) (hy:ny<=400000) (hk:k<=400000) (hd:d≠0) (hC:gk x y nx ny d X Y D):aj Φ prog ⟨33,[.fact p,.fact q,.fact r],[⟨.agg [.s,.s,.b,.s],[(0,1,p0),(1,1,p1),(2,2,p2)]⟩,oL (Ai 0)],true⟩:=
 aU (ach hx hy hk hd hC) ⟨hp,hq,hr,trivial⟩ ⟨⟨rfl,⟨rfl,rfl,λ_ _ h=>h0▸h⟩,⟨rfl,rfl,λ_ _ h=>h1▸h⟩,⟨rfl,rfl,λ_ _ h=>h2▸h⟩,trivial⟩,⟨rfl,trivial⟩,trivial⟩
theorem acn (hp:Im Φ p (Rw 2 (If x k) nx)) (hq:Im Φ q (Rw 2 (If y k) ny)) (hr:Im Φ r (Iw 0 k)) (hk:k<=400000):aj Φ prog ⟨33,[.fact p,.fact q,.fact r],[⟨.agg [.lit .nl,.lit .nl,.lit (.cb false),.lit .nl],[]⟩,oL (Ai 2)],true⟩:=
 aU (acl (x:=x) (y:=y) (nx:=nx) (ny:=ny) hk) ⟨hp,hq,hr,trivial⟩ ⟨⟨rfl,trivial⟩,⟨rfl,trivial⟩,trivial⟩
end
theorem Jt (a:Int):(((a:Int):Rat)*aH 1 (ceE 0)).den=1:=by rw [show ceE 0=1 from rfl,gg,<- Rat.intCast_mul];rfl
theorem up (z:Nat->Int) (n:Nat):aw (mk n z)=fx (ceE 0) 1 z n:=by
 have h:∀i,aG (ceE 0) z i=((z i:Int):Rat):=λi=>by rw [aG,show ceE 0=1 from rfl,gg,<- Rat.intCast_mul,Int.mul_one]
 refine List.ext_getElem (by rw [fF,fx,dc]) λi hi hi'=>?_;have h1:=qi (L:=aw (mk n z)) rfl i (by rwa [fF] at hi);have h2:ae (fx (ceE 0) 1 z n) i=z i:=by rw [fx,dc] at hi';rw [fx,cU,if_pos hi',cuX,h];show z i*((1 / 1:Nat):Int)=_;rw [Nat.div_self (by omega)];exact Int.mul_one _
 simp only [ae,List.getD_eq_getElem?_getD,List.getElem?_eq_getElem hi,List.getElem?_eq_getElem hi',Option.getD_some] at h1 h2;rw [h1,h2]
def aco (x y:Nat->Int) (nx ny k:Nat) (d D:Int) (X Y:List Int):List WP:=[Rw 2 (If x k) nx,Rw 2 (If y k) ny,Iw d k,Rw 2 (Nf (ae X) k) X.length,Rw 2 (Nf (ae Y) k) Y.length,Nw D k]
def acp:List Step:=[.base ⟨33,[0,1,2],[⟨.agg [.s,.s,.b,.s],[(0,1,3),(1,1,4),(2,2,5)]⟩,oL (Ai 0)],true⟩]
def acq:List Out:=[⟨.agg [.s,.s,.b,.s],[(0,1,0),(1,1,1),(2,2,2)]⟩]
theorem acr {x:Nat->Int} (hx:nx<=400000) (hy:ny<=400000) (hk:k<=400000) (hd:d≠0) (hC:gk x y nx ny d X Y D):aj (ph (aco x y nx ny k d D X Y)) prog ⟨46,[.parts (.agg [.s,.s,.b,.s]) [(0,1,0),(1,1,1),(2,2,2)]],[⟨.agg [.s,.s,.b,.s],[(0,1,3),(1,1,4),(2,2,5)]⟩],false⟩:=adL acq [⟨.agg [.s,.s,.b,.s],[(0,1,3),(1,1,4),(2,2,5)]⟩] acp func46 (by kernel_rfl) (lB (acm (x:=x) (y:=y) (nx:=nx) (ny:=ny) (k:=k) (d:=d) (X:=X) (Y:=Y) (D:=D) (Rw.To 2 (If x k) nx (λ_ _ _ _ h=>h)) (Rw.To 2 (If y k) ny (λ_ _ _ _ h=>h)) iI rfl rfl rfl hx hy hk hd hC) au)
  (aP [.parts (.agg [.s,.s,.b,.s]) [(0,1,0),(1,1,1),(2,2,2)]] ⟨trivial,trivial⟩) aV
def acs (x y:Nat->Int) (nx ny k:Nat) (X Y:List Int):List WP:=[Rw 2 (If x k) nx,Rw 2 (If y k) ny,Iw (0:Int) k,Rw 2 (Nf (ae X) k) X.length,Rw 2 (Nf (ae Y) k) Y.length,Nw (1:Int) 2]
def act:List Step:=[.base ⟨33,[0,1,2],[⟨.agg [.lit (.nl),.lit (.nl),.lit (.cb false),.lit (.nl)],[]⟩,oL (Ai 2)],true⟩,
   cB 37 [0,1] [⟨.agg [.s,.s,.b,.s],[(0,1,3),(1,1,4),(2,2,5)]⟩]]
def acu:List Out:=[⟨.agg [.s,.s,.b,.s],[(0,1,0),(1,1,1),(2,2,2)]⟩]
theorem acv {x:Nat->Int} (hx:nx<=400000) (hy:ny<=400000) (hk:k<=400000) (hX:aw (mk nx x)=X) (hY:aw (mk ny y)=Y):aj (ph (acs x y nx ny k X Y)) prog ⟨46,[.parts (.agg [.s,.s,.b,.s]) [(0,1,0),(1,1,1),(2,2,2)]],[⟨.agg [.s,.s,.b,.s],[(0,1,3),(1,1,4),(2,2,5)]⟩],false⟩:=adL acu [⟨.agg [.s,.s,.b,.s],[(0,1,3),(1,1,4),(2,2,5)]⟩] act func46 (by kernel_rfl) (lB (acn (x:=x) (y:=y) (nx:=nx) (ny:=ny) (k:=k) (Rw.To 2 (If x k) nx (λ_ _ _ _ h=>h)) (Rw.To 2 (If y k) ny (λ_ _ _ _ h=>h)) iI hk) (lB (Cn (x:=x) (y:=y) (k:=k) (Rw.To 2 (If x k) nx (λ_ _ _ _ h=>h)) (Rw.To 2 (If y k) ny (λ_ _ _ _ h=>h)) rfl rfl rfl hX hY) au))
  (aP [.parts (.agg [.s,.s,.b,.s]) [(0,1,0),(1,1,1),(2,2,2)]] ⟨trivial,trivial⟩) aV
section
variable {r:Nat}{x:Nat->Int}
theorem iB (hp:Im Φ p (Rw 2 (If x k) nx)) (hq:Im Φ q (Rw 2 (If y k) ny)) (hr:Im Φ r (Iw d k)) (h0:Φ p0=Rw 2 (Nf (ae X) k) X.length) (h1:Φ p1=Rw 2 (Nf (ae Y) k) Y.length) (h2:Φ p2=Nw D k) (hk1:1<=k) (hC:gk x y nx ny d X Y D) (hx:nx<=400000:=by omega) (hy:ny<=400000:=by omega) (hk:k<=400000:=by omega):aj Φ prog ⟨46,[.parts cS [(0,1,p),(1,1,q),(2,2,r)]],[⟨.agg [.s,.s,.b,.s],[(0,1,p0),(1,1,p1),(2,2,p2)]⟩],false⟩:=by
 by_cases hd:d=0
 ·subst hd;obtain ⟨hX,hY,hD⟩:=hC;have h1':dN (ceE 0) x y nx ny=1:=wC (λ_=>by unfold bm aG;split <;> exact Jt _) _;rw [h1'] at hX hY hD;subst hD;refine aU (acv (x:=x) (y:=y) (nx:=nx) (ny:=ny) (k:=k) hx hy hk ((up x nx).trans hX) ((up y ny).trans hY)) ⟨⟨rfl,⟨rfl,rfl,hp⟩,⟨rfl,rfl,hq⟩,⟨rfl,rfl,hr⟩,trivial⟩,trivial⟩ ⟨⟨rfl,⟨rfl,rfl,λ_ _ h=>h0▸h⟩,⟨rfl,rfl,λ_ _ h=>h1▸h⟩,⟨rfl,rfl,λ_ _ h=>by rw [h2];exact ak.re h (dV hk1)⟩,trivial⟩,trivial⟩
 ·exact aU (acr hx hy hk hd hC) ⟨⟨rfl,⟨rfl,rfl,hp⟩,⟨rfl,rfl,hq⟩,⟨rfl,rfl,hr⟩,trivial⟩,trivial⟩ ⟨⟨rfl,⟨rfl,rfl,λ_ _ h=>h0▸h⟩,⟨rfl,rfl,λ_ _ h=>h1▸h⟩,⟨rfl,rfl,λ_ _ h=>h2▸h⟩,trivial⟩,trivial⟩
end
section
variable {r y z:Nat}{A B X' Y':List Int}
end
abbrev cR:cC:=.agg [.s,.s,.s,.s,.b,.s]
def crL (P Q:List Int) (d d':Int):List Int:=cj (adI Q [d]) (cN (adI P [d']))
theorem gQ  (hP:EOk c k P) (hQ:EOk c k Q) (hd:EOk 1 k [d]) (hd':EOk 1 k [d']):EOk (c+1) (k+k+c+1) (crL P Q d d'):=(hQ.mul hd).add (hP.mul hd').neg
def apL (X Y X' Y':List Int) (d d':Int):List Int:=cj (adI (crL X X' d d') (crL X X' d d')) (adI (crL Y Y' d d') (crL Y Y' d d'))
theorem mj {X' Y':List Int} (hX:EOk c k X) (hY:EOk c k Y) (hd:EOk 1 k [d]) (hX':EOk c k X') (hY':EOk c k Y') (hd':EOk 1 k [d']):EOk (c+1+(c+1)) (k+k+c+1+(k+k+c+1)+(c+1)+1) (apL X Y X' Y' d d'):=((gQ hX hX' hd hd').mul (gQ hX hX' hd hd')).add ((gQ hY hY' hd hd').mul (gQ hY hY' hd hd'))
def dG (X0 Y0 X1 Y1 X2 Y2 X3 Y3:List Int) (d0 d1 d2 d3:Int):List Int:=cj (adI (apL X2 Y2 X3 Y3 d2 d3) (adI (adI [d0] [d1]) (adI [d0] [d1]))) (cN (adI (apL X0 Y0 X1 Y1 d0 d1) (adI (adI [d2] [d3]) (adI [d2] [d3]))))
theorem pe {G:WP} (hx:Φ x=G) (h:Im Φ q G) (X:Nat->Prop) (w:World) (v:Value) (hv:(Arg.parts (.one .s) [(0,0,q)]).ok Φ X w v):(Arg.fact x).ok Φ X w v:=λw1 hw=>by rw [hx];exact h _ _ (hv.2 (0,0,q) (List.mem_singleton.2 rfl) w1 hw)
def hO (a b c:List Int) (k:Nat):List Int:=if k=0 then a else if k=1 then b else c
def kT (a b c d:List Int) (k:Nat):List Int:=if k=0 then a else if k=1 then b else if k=2 then c else d
theorem nG {x y:List Int} (h0:EOk c k x) (h1:EOk c k y) (h2:EOk c k z) (i:Nat):EOk c k (hO x y z i):=by
 unfold hO;split
 ·exact h0
 ·split
  ·exact h1
  ·exact h2
theorem yX {x y u:List Int} (h0:EOk c k x) (h1:EOk c k y) (h2:EOk c k z) (h3:EOk c k u) (i:Nat):EOk c k (kT x y z u i):=by
 unfold kT;split
 ·exact h0
 ·split
  ·exact h1
  ·split
   ·exact h2
   ·exact h3
def orM (X0 Y0 X1 Y1 X2 Y2:List Int) (d0 d1 d2:Int) (i:Nat):Nat->List Int:=if i=0 then hO X0 Y0 [d0] else if i=1 then hO X1 Y1 [d1] else hO X2 Y2 [d2]
theorem acw  (hk:k<=20) (hc:c<=20) (hX0:EOk c k X0) (hY0:EOk c k Y0) (hd0:EOk 1 k [d0]) (hX1:EOk c k X1) (hY1:EOk c k Y1) (hd1:EOk 1 k [d1]) (hX2:EOk c k X2) (hY2:EOk c k Y2) (hd2:EOk 1 k [d2]) (i j:Nat):EOk 100 100 (orM X0 Y0 X1 Y1 X2 Y2 d0 d1 d2 i j):=by
 have m:∀{A:List Int},EOk c k A->EOk 100 100 A:=λh=>h.more (by omega) (by omega);have n:∀{A:List Int},EOk 1 k A->EOk 100 100 A:=λh=>h.more (by omega) (by omega);unfold orM;split
 ·exact nG (m hX0) (m hY0) (n hd0) j
 ·split
  ·exact nG (m hX1) (m hY1) (n hd1) j
  ·exact nG (m hX2) (m hY2) (n hd2) j
def kS (X Y:List Int) (d:Int):Nat->List Int:=kT (adI X [d]) (adI Y [d]) (cj (adI X X) (adI Y Y)) (adI [d] [d])
theorem uq  (hk:k<=20) (hc:c<=20) (hX:EOk c k X) (hY:EOk c k Y) (hd:EOk 1 k [d]) (j:Nat):EOk 100 100 (kS X Y d j):=
 yX ((hX.mul hd).more (by omega) (by omega)) ((hY.mul hd).more (by omega) (by omega)) (((hX.mul hX).add (hY.mul hY)).more (by omega) (by omega)) ((hd.mul hd).more (by omega) (by omega)) j
def cu (X0 Y0 X1 Y1 X2 Y2 X3 Y3:List Int) (d0 d1 d2 d3:Int) (i:Nat):Nat->List Int:=if i=0 then kS X0 Y0 d0 else if i=1 then kS X1 Y1 d1 else if i=2 then kS X2 Y2 d2 else kS X3 Y3 d3
theorem acx {d3:Int} (hk:k<=20) (hc:c<=20) (hX0:EOk c k X0) (hY0:EOk c k Y0) (hd0:EOk 1 k [d0]) (hX1:EOk c k X1) (hY1:EOk c k Y1) (hd1:EOk 1 k [d1]) (hX2:EOk c k X2) (hY2:EOk c k Y2) (hd2:EOk 1 k [d2]) (hX3:EOk c k X3) (hY3:EOk c k Y3) (hd3:EOk 1 k [d3]) (i j:Nat):EOk 100 100 (cu X0 Y0 X1 Y1 X2 Y2 X3 Y3 d0 d1 d2 d3 i j):=by
 unfold cu;split
 ·exact uq hk hc hX0 hY0 hd0 j
 ·split
  ·exact uq hk hc hX1 hY1 hd1 j
  ·split
   ·exact uq hk hc hX2 hY2 hd2 j
   ·exact uq hk hc hX3 hY3 hd3 j
theorem ak.mm {z:Int} (h:ak w v z k):v.cells.size=2∧ak w (.agg v.cells) z k:=by obtain ⟨l,rfl,hl,_⟩:=ak.cells h;exact ⟨by simpa [Value.cells] using hl,h⟩
def Cv4 (A B C:WP) (w:World) (v:Value):Prop:=∃a b s t,iC [.s,.s,.b,.s] [a,b,s,t]∧v = .agg #[a,b,s,t]∧A w a∧B w b∧C w (.agg #[s,t])
section
variable {r y z:Nat}{A B C:WP}
theorem nJ (hp:Im Φ p A) (hq:Im Φ q B) (hr:Im Φ r C) (hx:Φ x=Cv4 A B C) (Z:Nat->Prop) (w:World) (v:Value) (h:(Arg.parts cS [(0,1,p),(1,1,q),(2,2,r)]).ok Φ Z w v):(Arg.fact x).ok Φ Z w v:=λw1 hw=>by
 rw [hx];obtain ⟨⟨vs,rfl,hvs⟩,hf⟩:=h
 match vs,hvs with
 | [a,b,n,s],hvs=>
  obtain ⟨⟨_,_,_,rfl⟩,⟨_,_,_,rfl⟩,⟨_,rfl⟩,⟨_,_,_,rfl⟩,_⟩:=id hvs;refine ⟨_,_,_,_,hvs,rfl,?_,?_,?_⟩
  ·have:=hp _ _ (hf (0,1,p) (by simp) w1 hw);simpa [bS,cellsOf,Value.cells] using this
  ·have:=hq _ _ (hf (1,1,q) (by simp) w1 hw);simpa [bS,cellsOf,Value.cells] using this
  ·have:=hr _ _ (hf (2,2,r) (by simp) w1 hw);simpa [bS,cellsOf,Value.cells] using this
theorem Cv4.cells4  (h:Cv4 A B C w v):v.cells.size=4∧Cv4 A B C w (.agg v.cells):=by obtain ⟨a,b,n,s,hvs,rfl,h1,h2,h3⟩:=h;obtain ⟨⟨_,_,_,rfl⟩,⟨_,_,_,rfl⟩,⟨_,rfl⟩,⟨_,_,_,rfl⟩,_⟩:=id hvs;exact ⟨by simp [Value.cells],⟨_,_,_,_,hvs,by simp [Value.cells],h1,h2,h3⟩⟩
theorem gl {T:TypeId} (hp:Im Φ p (Ptr 4 (Cv4 A B C))) (hx:Φ x=A) (hy:Φ y=B) (hd:Φ z=C) (hT:gV prog T=some true:=by kernel_rfl) (hz:dU prog T=some 4:=by kernel_rfl) :
  aj Φ prog ⟨0,[.fact p],[⟨cS,[(0,1,x),(1,1,y),(2,2,z)]⟩],.quiet (aQ T)⟩:=λZ w ac o xs _ hm ha=>by
 unfold aQ at hm;split at hm
 case h_2=>cases hm
 rename_i t u ho;split at hm
 case isFalse=>cases hm
 rename_i ht;subst ht;simp only [Option.some.injEq] at hm;subst hm;have A0:∀w1,Off Z w w1->Ptr 4 (Cv4 A B C) w1 (ac.eval u):=λw1 hw=>hp _ _ (ha.1 w1 hw);obtain ⟨b,off,hv,l,h1,h2,h3⟩:=A0 w (Off.refl _ _);obtain ⟨g,hg,hZ,hlt⟩:=mL (sz:=4) (n:=1) (F:=λ_=>Cv4 A B C) (X:=Z) (w:=w) (s:=.slice (some ⟨b,off,none⟩) 1 1) (z0:=.bool true) (λ_ _ l hl _=>by
  obtain ⟨a,b',n,s,hvs,e,-⟩:=hl;obtain rfl:l = [a,b',n,s]:=by simpa using e
  obtain ⟨⟨_,_,_,rfl⟩,-⟩:=hvs;exact ⟨_,rfl,λh=>(by cases h),λ_ _ h=>by cases h⟩) (λw1 hw=>by
  obtain ⟨b',off',e,l',g1,g2,g3⟩:=A0 w1 hw;rw [hv] at e;simp only [Value.pointer.injEq,Option.some.injEq,Addr.mk.injEq,and_true] at e;obtain ⟨rfl,rfl⟩:=e;refine ⟨_,_,rfl,Nat.le_refl _,λi hi=>⟨b,off,rfl,l',g1,λj u hj=>?_,g3⟩⟩;obtain rfl:i=0:=by omega
  rw [Nat.zero_mul,Nat.add_zero];exact g2 j u hj)
 simp only [blk,Option.some.injEq] at hg;subst hg;have key:∀w1,Off Z w w1->Cv4 A B C w1 (.agg l.toArray):=λw1 hw=>by
  obtain ⟨b',off',e,l',g1,g2,g3⟩:=A0 w1 hw;rw [hv] at e;simp only [Value.pointer.injEq,Option.some.injEq,Addr.mk.injEq,and_true] at e;obtain ⟨rfl,rfl⟩:=e;have:l'=l:=by refine List.ext_getElem (by rw [g1,h1]) λj hj hj'=>?_;have e1:=g2 j _ (List.getElem?_eq_getElem hj);rw [World.cell?_of_block (hw.2 b hlt hZ),h2 j _ (List.getElem?_eq_getElem hj')] at e1;exact (Option.some.inj e1).symm
  rwa [this] at g3
 refine ⟨.agg l.toArray,w,?_,bH w none,⟨⟨?_,λr hr w1 hw=>?_⟩,trivial⟩⟩
 ·have hrun:=run_loadCells_list (P:=prog) w ⟨b,off,none⟩ l (λj u hj=>by rw [jH];exact h2 j u hj);rw [h1] at hrun;unfold execOp;simp [ho,hv,Instr.loadAt,Instr.sureAddr,loadVar,gW hT,run_sizeOf hz,hrun]
 ·obtain ⟨a,b',n,s,hvs,e,-⟩:=h3;obtain rfl:l = [a,b',n,s]:=by simpa using e
  exact ⟨_,rfl,hvs⟩
 ·obtain ⟨a,b',n,s,hvs,e,k1,k2,k3⟩:=key w1 hw;obtain rfl:l = [a,b',n,s]:=by simpa using e
  obtain ⟨⟨_,_,_,rfl⟩,⟨_,_,_,rfl⟩,⟨_,rfl⟩,⟨_,_,_,rfl⟩,_⟩:=hvs;simp only [List.mem_cons,List.not_mem_nil,or_false] at hr;rcases hr with rfl | rfl | rfl
  ·show Φ x w1 _;rw [hx];simpa [bS,cellsOf,Value.cells] using k1
  ·show Φ y w1 _;rw [hy];simpa [bS,cellsOf,Value.cells] using k2
  ·show Φ z w1 _;rw [hd];simpa [bS,cellsOf,Value.cells] using k3
end
abbrev dk (x y:Nat->Int) (n m:Nat) (d:Int) (k:Nat):WP:=Cv4 (Rw 2 (If x k) n) (Rw 2 (If y k) m) (Iw d k)
abbrev eD (L:Nat->List Int) (K:Nat):PH:=cF (λj=>ae (L j)) (λj=>(L j).length) K
abbrev cW (M:Nat->Nat->List Int) (n K:Nat):PH:=bt (λi j=>ae (M i j)) (λi j=>(M i j).length) n K
def bW {α:Type} (a b c:α) (i:Nat):α:=if i=0 then a else if i=1 then b else c
def bF {α:Type} (a b c d:α) (i:Nat):α:=if i=0 then a else if i=1 then b else if i=2 then c else d
structure CuG (x y:Nat->Int) (n m:Nat) (d:Int) (X Y:List Int) (D:Int) (c k:Nat):Prop where
 nu:gk x y n m d X Y D
 hn:n<=1000
 hm:m<=1000
 k1:1<=k
 k2:k<=20
 c2:c<=20
 oX:EOk c k X
 oY:EOk c k Y
 oD:EOk 1 k [D]
theorem pA  (ha:ct [a]) (hb:ct [b]):adI [a] [b] = [a*b]:=by have ha0:a≠0:=ha (by simp);have hb0:b≠0:=hb (by simp);have h:ct [a*b]:=λ_=>Int.mul_ne_zero ha0 hb0;rw [<- um];exact eU h
theorem EOk.fy  (h:EOk c k P) (g:EOk 1 l [a]):EOk c (k+l) (adI P [a]):=by
 refine ⟨?_,oC _ _ _ _,λi=>?_⟩
 ·rw [<- um,fF];exact Nat.le_trans (bg _ _) h.len
 ·rw [<- um,ig,cU];split
  ·rw [Int.natAbs_mul];exact (h.bd i).mul (g.bd 0)
  ·exact Nat.pow_pos (by omega)
theorem EOk.dZ  (h:EOk 1 k [a]) (g:EOk 1 l [b]):EOk 1 (k+l) [a*b]:=pA h.nrm g.nrm▸h.fy g
theorem Ju {m:Nat} (hp:Im Φ p (Rw 1 (aK (eD L K)) m)) (hx:Φ x=Rw 1 (aK (eD L K)) m) (hL:∀j,(L j).length<=1000000) (hN:∀j,ct (L j)) (hm:m<=1000:=by omega) (hK:K<=100000:=by omega):aj Φ prog ⟨73,[.fact p],[oS x],false⟩:=by refine Tg (z:=λj=>ae (L j)) (ln:=λj=>(L j).length) hp ?_ hm hK hL;rw [hx];have e:(λj=>aw (mk (L j).length (ae (L j))))=L:=funext λj=>eU (hN j);show (Rw 1 (aK (cF (λj=>ae (L j)) (λj=>(L j).length) K)) m)=Rw 1 (aK (cF (λj=>ae ((λj=>aw (mk (L j).length (ae (L j)))) j)) (λj=>((λj=>aw (mk (L j).length (ae (L j)))) j).length) K)) m;rw [e]
def acy (a b:Int) (k:Nat):List WP:=[Rw 2 (Nf (ae [a,b]) k) 2,Nw (1:Int) 2,Ptr 2 (Nw ((ae [a,b]) 0) k),Nw ((ae [a,b]) 0) k,Nw ((1:Int)*((ae [a,b]) 0)) (2+k),Ptr 2 (Nw ((ae [a,b]) 1) k),Nw ((ae [a,b]) 1) k,Nw (((1:Int)*((ae [a,b]) 0))*((ae [a,b]) 1)) ((2+k)+k)]
def acz:List Step:=[cB 68 [.lit (Ai 1)] [oI 1],bQ [0] [oL (Ai 2)] (aC 24),.rounds 3,bQ [0,.lit (Ai 0)] [oP 2] (adK 24),bQ [2] [oI 3] (aQ 28),
   cB 117 [1,3] [oI 4],bQ [0,.lit (Ai 1)] [oP 5] (adK 24),bQ [5] [oI 6] (aQ 28),
   cB 117 [4,6] [oI 7]]
def acA:List Out:=[oS 0]
theorem acB  (hk:k<=100000):aj (ph (acy a b k)) prog ⟨76,[0],[oI 7],false⟩:=adL acA [oI 7] acz func76 (by kernel_rfl) (lB (wA (z:=1) rfl rfl) (lB (mn (n:=2) (sz:=2) (F:=(Nf (ae [a,b]) k)) rfl underlying24 (λ_ _ h=>Rw.arr h)) (iA (lB (eg 0 (sz:=2) (n:=2) (F:=(Nf (ae [a,b]) k)) underlying24 (λ_ _ h=>Rw.arr h) rfl rfl) (lB (bT (sz:=2) (F:=Nw ((ae [a,b]) 0) k) ad (λ_ _ _ g h=>ak.kp h g) (λ_ _ h=>ak.is h) rfl) (lB (ud nI nI rfl rfl) (lB (eg 1 (sz:=2) (n:=2) (F:=(Nf (ae [a,b]) k)) underlying24 (λ_ _ h=>Rw.arr h) rfl rfl) (lB (bT (sz:=2) (F:=Nw ((ae [a,b]) 1) k) ad (λ_ _ _ g h=>ak.kp h g) (λ_ _ h=>ak.is h) rfl) (lB (ud nI nI rfl rfl) au)))))))))
  (aP [.fact 0 (.one (.s))] ⟨Rw.Is 2 (Nf (ae [a,b]) k) 2,trivial⟩) aV
theorem zd  (hp:Im Φ p (Rw 2 (Nf (ae [a,b]) k) 2)) (hx:Φ x=Nw (a*b) (k+k)) (ha:Bd a.natAbs k) (hb:Bd b.natAbs k) (hk:k<=100000:=by omega):aj Φ prog ⟨76,[.fact p],[⟨iS,[(0,0,x)]⟩],false⟩:=
 aU (acB (a:=a) (b:=b) hk) ⟨hp,trivial⟩ ⟨⟨rfl,⟨rfl,rfl,λ_ _ h=>by
  rw [hx];have h':=ak.eq h (show _=a*b by simp [ae]);exact ak.re h' (by rw [Int.natAbs_mul];exact ha.mul hb)⟩,trivial⟩,trivial⟩
theorem rx {y:Int} (hp:Im Φ p (Rw 2 (Nf (ae P) k) P.length)) (hq:Im Φ q (Nw y l)) (hx:Φ x=Rw 2 (Nf (ae (adI P [y])) K) (adI P [y]).length) (hn:P.length<=1000000) (hb:∀i,Bd (ae (adI P [y]) i).natAbs K) (hk:k<=200000:=by omega) (hl:l<=200000:=by omega):aj Φ prog ⟨74,[.fact p,.fact q],[oS x],false⟩:=
 aU (rk (Φ:=ph [λw v=>Rw 2 (λι w v=>ak w v (ae P ι) k) P.length w v,Nw y l,λw v=>Rw 2 (λι w v=>ak w v (ae (adI P [y]) ι) (k+l)) (adI P [y]).length w v]) (p:=0) (q:=1) (x:=2) (z:=ae P) (n:=P.length) (y:=y) (L:=adI P [y]) (k:=k) (l:=l) (λ_ _ h=>Rw.to (sz:=2) (n:=P.length) (F:=λι w v=>ak w v (ae P ι) k) h λ_ _ _ _ h=>ak.i h) (λ_ _ h=>ak.i h) rfl (hn:=hn) um) ⟨hp,hq,trivial⟩ ⟨⟨rfl,⟨rfl,rfl,λw v h=>by rw [hx];exact Rw.to (sz:=2) (n:=(adI P [y]).length) (F:=λι w v=>ak w v (ae (adI P [y]) ι) (k+l)) h λi _ _ _ h=>ak.re h (hb i)⟩,trivial⟩,trivial⟩
def acC (P Q:List Int) (d e:Int) (k:Nat):List WP:=[Rw 2 (Nf (ae P) k) P.length,Nw d k,Rw 2 (Nf (ae Q) k) Q.length,Nw e k,Rw 2 (Nf (ae (adI Q [d])) 2000) ((adI Q [d]).length),Rw 2 (Nf (ae (adI P [e])) 2000) ((adI P [e]).length),Rw 2 (Nf (ae (cj (adI Q [d]) (cN (adI P [e])))) 2000) ((cj (adI Q [d]) (cN (adI P [e]))).length)]
def acD:List Step:=[cB 74 [2,1] [oS 4],
   cB 74 [0,3] [oS 5],
   cB 47 [4,5] [oS 6]]
def acE:List Out:=[oS 0,oI 1,oS 2,oI 3]
theorem acF {e:Int} (hk:k<=900) (hc:c<=300) (hP:EOk c k P) (hQ:EOk c k Q) (hd:EOk 1 k [d]) (he:EOk 1 k [e]):aj (ph (acC P Q d e k)) prog ⟨49,[0,1,2,3],[oS 6],false⟩:=adL acE [oS 6] acD func49 (by kernel_rfl) (lB (rx (P:=Q) (y:=d) (K:=2000) ad nN rfl (by have:=hQ.len;omega) (λi=>((hQ.fy hd).bd i).more (by omega))) (lB (rx (P:=P) (y:=e) (K:=2000) ad nN rfl (by have:=hP.len;omega) (λi=>((hP.fy he).bd i).more (by omega))) (lB (wX (A:=(adI Q [d])) (B:=(adI P [e])) (z:=(ae (adI Q [d]))) (n:=(adI Q [d]).length) (y:=(ae (adI P [e]))) (m:=(adI P [e]).length) (k:=2000) (l:=2000) (K:=2000) (Rw.To 2 (Nf (ae (adI Q [d])) 2000) ((adI Q [d]).length) (λ_ _ _ _ h=>ak.i h)) (Rw.To 2 (Nf (ae (adI P [e])) 2000) ((adI P [e]).length) (λ_ _ _ _ h=>ak.i h)) (eU (hQ.fy hd).nrm) (eU (hP.fy he).nrm) rfl (by have:=(hQ.fy hd).len;omega) (by have:=(hP.fy he).len;omega) (λi=>(((hQ.fy hd).add (hP.fy he).neg).bd i).more (by omega))) au)))
  (aP [.fact 0 (.one (.s)),.fact 1 (.agg [.b,.s]),.fact 2 (.one (.s)),.fact 3 (.agg [.b,.s])] ⟨Rw.Is 2 (Nf (ae P) k) P.length,λ_ _ h=>ak.is h,Rw.Is 2 (Nf (ae Q) k) Q.length,λ_ _ h=>ak.is h,trivial⟩) aV
section
variable {r s:Nat}{e:Int}
theorem ze (hp:Im Φ p (Rw 2 (Nf (ae P) k) P.length)) (hq:Im Φ q (Nw d k)) (hr:Im Φ r (Rw 2 (Nf (ae Q) k) Q.length)) (hs:Im Φ s (Nw e k)) (hx:Φ x=Rw 2 (Nf (ae (crL P Q d e)) 2000) (crL P Q d e).length) (hP:EOk c k P) (hQ:EOk c k Q) (hd:EOk 1 k [d]) (he:EOk 1 k [e]) (hk:k<=900:=by omega) (hc:c<=300:=by omega):aj Φ prog ⟨49,[.fact p,.fact q,.fact r,.fact s],[oS x],false⟩:=
 aU (acF hk hc hP hQ hd he) ⟨hp,hq,hr,hs,trivial⟩ ⟨⟨rfl,⟨rfl,rfl,λ_ _ h=>hx▸h⟩,trivial⟩,trivial⟩
end
def acG (P Q:List Int) (k:Nat):List WP:=[Rw 2 (Nf (ae P) k) P.length,Rw 2 (Nf (ae Q) k) Q.length,Rw 2 (Nf (ae (adI P P)) 2000) ((adI P P).length),Rw 2 (Nf (ae (adI Q Q)) 2000) ((adI Q Q).length),Rw 2 (Nf (ae (cj (adI P P) (adI Q Q))) 2000) ((cj (adI P P) (adI Q Q)).length)]
def acH:List Step:=[cB 119 [0,0] [oS 2],
   cB 119 [1,1] [oS 3],
   cB 118 [2,3] [oS 4]]
def acI:List Out:=[oS 0,oS 1]
theorem acJ  (hk:k<=800) (hc:c<=100) (hP:EOk c k P) (hQ:EOk c k Q):aj (ph (acG P Q k)) prog ⟨75,[0,1],[oS 4],false⟩:=adL acI [oS 4] acH func75 (by kernel_rfl) (lB (ta (c:=1000) (A:=P) (B:=P) (z:=(ae P)) (n:=P.length) (y:=(ae P)) (m:=P.length) (k:=k) (l:=k) (K:=2000) (Rw.To 2 (Nf (ae P) k) P.length (λ_ _ _ _ h=>ak.i h)) (Rw.To 2 (Nf (ae P) k) P.length (λ_ _ _ _ h=>ak.i h)) (eU hP.nrm) (eU hP.nrm) rfl (by have:=hP.len;omega) (by have:=hP.len;omega) (λi=>((hP.mul hP).bd i).more (by omega))) (lB (ta (c:=1000) (A:=Q) (B:=Q) (z:=(ae Q)) (n:=Q.length) (y:=(ae Q)) (m:=Q.length) (k:=k) (l:=k) (K:=2000) (Rw.To 2 (Nf (ae Q) k) Q.length (λ_ _ _ _ h=>ak.i h)) (Rw.To 2 (Nf (ae Q) k) Q.length (λ_ _ _ _ h=>ak.i h)) (eU hQ.nrm) (eU hQ.nrm) rfl (by have:=hQ.len;omega) (by have:=hQ.len;omega) (λi=>((hQ.mul hQ).bd i).more (by omega))) (lB (DM (A:=(adI P P)) (B:=(adI Q Q)) (z:=(ae (adI P P))) (n:=(adI P P).length) (y:=(ae (adI Q Q))) (m:=(adI Q Q).length) (k:=2000) (l:=2000) (K:=2000) (Rw.To 2 (Nf (ae (adI P P)) 2000) ((adI P P).length) (λ_ _ _ _ h=>ak.i h)) (Rw.To 2 (Nf (ae (adI Q Q)) 2000) ((adI Q Q).length) (λ_ _ _ _ h=>ak.i h)) (eU (hP.mul hP).nrm) (eU (hQ.mul hQ).nrm) rfl (by have:=(hP.mul hP).len;omega) (by have:=(hQ.mul hQ).len;omega) (λi=>(((hP.mul hP).add (hQ.mul hQ)).bd i).more (by omega))) au)))
  (aP [.fact 0 (.one (.s)),.fact 1 (.one (.s))] ⟨Rw.Is 2 (Nf (ae P) k) P.length,Rw.Is 2 (Nf (ae Q) k) Q.length,trivial⟩) aV
section
theorem Jv (hp:Im Φ p (Rw 2 (Nf (ae P) l) P.length)) (hq:Im Φ q (Rw 2 (Nf (ae Q) l) Q.length)) (hx:Φ x=Rw 2 (Nf (ae (cj (adI P P) (adI Q Q))) 2000) (cj (adI P P) (adI Q Q)).length) (hP:EOk c k P) (hQ:EOk c k Q) (hk:k<=800:=by omega) (hc:c<=100:=by omega):aj Φ prog ⟨75,[.fact p,.fact q],[oS x],false⟩:=
 aU (acJ hk hc hP hQ) ⟨λw v h=>Rw.to (sz:=2) (n:=P.length) (F:=Nf (ae P) l) (hp w v h) λi _ _ _ h=>ak.re h (hP.bd i),λw v h=>Rw.to (sz:=2) (n:=Q.length) (F:=Nf (ae Q) l) (hq w v h) λi _ _ _ h=>ak.re h (hQ.bd i),trivial⟩ ⟨⟨rfl,⟨rfl,rfl,λ_ _ h=>hx▸h⟩,trivial⟩,trivial⟩
end
def acK (X0 Y0 X1 Y1 X2 Y2 X3 Y3:List Int) (D0 D1 D2 D3:Int) (k:Nat):List WP:=[Rw 2 (Nf (ae X0) k) X0.length,Rw 2 (Nf (ae Y0) k) Y0.length,Nw D0 k,Rw 2 (Nf (ae X1) k) X1.length,Rw 2 (Nf (ae Y1) k) Y1.length,Nw D1 k,Rw 2 (Nf (ae X2) k) X2.length,Rw 2 (Nf (ae Y2) k) Y2.length,Nw D2 k,Rw 2 (Nf (ae X3) k) X3.length,Rw 2 (Nf (ae Y3) k) Y3.length,Nw D3 k,Rw 2 (Nf (ae ([D2,D3])) k) 2,Nw (D2*D3) (k+k),Rw 2 (Nf (ae (crL X0 X1 D0 D1)) 2000) ((crL X0 X1 D0 D1).length),Rw 2 (Nf (ae (crL Y0 Y1 D0 D1)) 2000) ((crL Y0 Y1 D0 D1).length),Rw 2 (Nf (ae (cj (adI (crL X0 X1 D0 D1) (crL X0 X1 D0 D1)) (adI (crL Y0 Y1 D0 D1) (crL Y0 Y1 D0 D1)))) 2000) ((cj (adI (crL X0 X1 D0 D1) (crL X0 X1 D0 D1)) (adI (crL Y0 Y1 D0 D1) (crL Y0 Y1 D0 D1))).length),Rw 2 (Nf (ae ([(D2*D3),(D2*D3)])) (k+k)) 2,Nw ((D2*D3)*(D2*D3)) ((k+k)+(k+k)),Rw 2 (Nf (ae (adI (cj (adI (crL X0 X1 D0 D1) (crL X0 X1 D0 D1)) (adI (crL Y0 Y1 D0 D1) (crL Y0 Y1 D0 D1))) [((D2*D3)*(D2*D3))])) 2000) ((adI (cj (adI (crL X0 X1 D0 D1) (crL X0 X1 D0 D1)) (adI (crL Y0 Y1 D0 D1) (crL Y0 Y1 D0 D1))) [((D2*D3)*(D2*D3))]).length)]
def acL:List Step:=[.base ⟨0,[.any,8,11],[oS 12],.fresh [] (dl 24 2)⟩,
   cB 76 [12] [oI 13],
   cB 49 [0,2,3,5] [oS 14],
   cB 49 [1,2,4,5] [oS 15],
   cB 75 [14,15] [oS 16],.base ⟨0,[.any,13,13],[oS 17],.fresh [] (dl 24 2)⟩,
   cB 76 [17] [oI 18],
   cB 74 [16,18] [oS 19]]
def acM:List Out:=[⟨.agg [.s,.s,.b,.s],[(0,1,0),(1,1,1),(2,2,2)]⟩,⟨.agg [.s,.s,.b,.s],[(0,1,3),(1,1,4),(2,2,5)]⟩,⟨.agg [.s,.s,.b,.s],[(0,1,6),(1,1,7),(2,2,8)]⟩,⟨.agg [.s,.s,.b,.s],[(0,1,9),(1,1,10),(2,2,11)]⟩]
theorem acN  (hk:k<=20) (hc:c<=20) (hX0:EOk c k X0) (hY0:EOk c k Y0) (hD0:EOk 1 k [D0]) (hX1:EOk c k X1) (hY1:EOk c k Y1) (hD1:EOk 1 k [D1]) (_hX2:EOk c k X2) (_hY2:EOk c k Y2) (hD2:EOk 1 k [D2]) (_hX3:EOk c k X3) (_hY3:EOk c k Y3) (hD3:EOk 1 k [D3]):aj (ph (acK X0 Y0 X1 Y1 X2 Y2 X3 Y3 D0 D1 D2 D3 k)) prog ⟨48,[.parts (.agg [.s,.s,.b,.s]) [(0,1,0),(1,1,1),(2,2,2)],.parts (.agg [.s,.s,.b,.s]) [(0,1,3),(1,1,4),(2,2,5)],.parts (.agg [.s,.s,.b,.s]) [(0,1,6),(1,1,7),(2,2,8)],.parts (.agg [.s,.s,.b,.s]) [(0,1,9),(1,1,10),(2,2,11)]],[oS 19],false⟩:=adL acM [oS 19] acL func48 (by kernel_rfl) (lB (fM (ps:=[8,11]) (sz:=2) (n:=2) (F:=(Nf (ae ([D2,D3])) k)) (zc:=.agg [.cb false,.nl]) underlying24 rfl (wh (F:=(Nf (ae ([D2,D3])) k)) (λ_ _ h=>ak.mm h) (λ_ _ h=>ak.mm h)) rfl) (lB (zd (a:=D2) (b:=D3) (k:=k) ad rfl (hD2.bd 0) (hD3.bd 0)) (lB (ze ad nN ad nN rfl hX0 hX1 hD0 hD1) (lB (ze ad nN ad nN rfl hY0 hY1 hD0 hD1) (lB (Jv (l:=2000) ad ad rfl (gQ hX0 hX1 hD0 hD1) (gQ hY0 hY1 hD0 hD1)) (lB (fM (ps:=[13,13]) (sz:=2) (n:=2) (F:=(Nf (ae ([(D2*D3),(D2*D3)])) (k+k))) (zc:=.agg [.cb false,.nl]) underlying24 rfl (wh (F:=(Nf (ae ([(D2*D3),(D2*D3)])) (k+k))) (λ_ _ h=>ak.mm h) (λ_ _ h=>ak.mm h)) rfl) (lB (zd (a:=(D2*D3)) (b:=(D2*D3)) (k:=(k+k)) ad rfl ((hD2.dZ hD3).bd 0) ((hD2.dZ hD3).bd 0)) (lB (rx (P:=(cj (adI (crL X0 X1 D0 D1) (crL X0 X1 D0 D1)) (adI (crL Y0 Y1 D0 D1) (crL Y0 Y1 D0 D1)))) (y:=((D2*D3)*(D2*D3))) (K:=2000) ad nN rfl (by have:=(((gQ hX0 hX1 hD0 hD1).mul (gQ hX0 hX1 hD0 hD1)).add ((gQ hY0 hY1 hD0 hD1).mul (gQ hY0 hY1 hD0 hD1))).len;omega) (λi=>(((((gQ hX0 hX1 hD0 hD1).mul (gQ hX0 hX1 hD0 hD1)).add ((gQ hY0 hY1 hD0 hD1).mul (gQ hY0 hY1 hD0 hD1))).fy ((hD2.dZ hD3).dZ (hD2.dZ hD3))).bd i).more (by omega))) au))))))))
  (aP [.parts (.agg [.s,.s,.b,.s]) [(0,1,0),(1,1,1),(2,2,2)],.parts (.agg [.s,.s,.b,.s]) [(0,1,3),(1,1,4),(2,2,5)],.parts (.agg [.s,.s,.b,.s]) [(0,1,6),(1,1,7),(2,2,8)],.parts (.agg [.s,.s,.b,.s]) [(0,1,9),(1,1,10),(2,2,11)]] ⟨trivial,trivial,trivial,trivial,trivial⟩) aV
theorem adW {q1 r1 q2 r2 q3 r3:Nat} (hp0:Im Φ p0 (Rw 2 (Nf (ae X0) k) X0.length)) (hq0:Im Φ q0 (Rw 2 (Nf (ae Y0) k) Y0.length)) (hr0:Im Φ r0 (Nw D0 k)) (hp1:Im Φ p1 (Rw 2 (Nf (ae X1) k) X1.length)) (hq1:Im Φ q1 (Rw 2 (Nf (ae Y1) k) Y1.length)) (hr1:Im Φ r1 (Nw D1 k)) (hp2:Im Φ p2 (Rw 2 (Nf (ae X2) k) X2.length)) (hq2:Im Φ q2 (Rw 2 (Nf (ae Y2) k) Y2.length)) (hr2:Im Φ r2 (Nw D2 k)) (hp3:Im Φ p3 (Rw 2 (Nf (ae X3) k) X3.length)) (hq3:Im Φ q3 (Rw 2 (Nf (ae Y3) k) Y3.length)) (hr3:Im Φ r3 (Nw D3 k)) (hx:Φ x=Rw 2 (Nf (ae (adI (apL X0 Y0 X1 Y1 D0 D1) [(D2*D3)*(D2*D3)])) 2000) (adI (apL X0 Y0 X1 Y1 D0 D1) [(D2*D3)*(D2*D3)]).length) (hk:k<=20) (hc:c<=20) (hX0:EOk c k X0) (hY0:EOk c k Y0) (hD0:EOk 1 k [D0]) (hX1:EOk c k X1) (hY1:EOk c k Y1) (hD1:EOk 1 k [D1]) (hX2:EOk c k X2) (hY2:EOk c k Y2) (hD2:EOk 1 k [D2]) (hX3:EOk c k X3) (hY3:EOk c k Y3) (hD3:EOk 1 k [D3]):aj Φ prog ⟨48,[.parts cS [(0,1,p0),(1,1,q0),(2,2,r0)],.parts cS [(0,1,p1),(1,1,q1),(2,2,r1)],.parts cS [(0,1,p2),(1,1,q2),(2,2,r2)],.parts cS [(0,1,p3),(1,1,q3),(2,2,r3)]],[oS x],false⟩:=
 aU (acN hk hc hX0 hY0 hD0 hX1 hY1 hD1 hX2 hY2 hD2 hX3 hY3 hD3) ⟨⟨rfl,⟨rfl,rfl,hp0⟩,⟨rfl,rfl,hq0⟩,⟨rfl,rfl,hr0⟩,trivial⟩,⟨rfl,⟨rfl,rfl,hp1⟩,⟨rfl,rfl,hq1⟩,⟨rfl,rfl,hr1⟩,trivial⟩,⟨rfl,⟨rfl,rfl,hp2⟩,⟨rfl,rfl,hq2⟩,⟨rfl,rfl,hr2⟩,trivial⟩,⟨rfl,⟨rfl,rfl,hp3⟩,⟨rfl,rfl,hq3⟩,⟨rfl,rfl,hr3⟩,trivial⟩,trivial⟩ ⟨⟨rfl,⟨rfl,rfl,λ_ _ h=>hx▸h⟩,trivial⟩,trivial⟩
theorem acO  (h0:Im Φ p0 (eD L K 0)) (h1:Im Φ p1 (eD L K 1)) (h2:Im Φ p2 (eD L K 2)) (hx:Φ x=Rw 1 (aK (eD L K)) 3):aj Φ prog ⟨0,[.any,.fact p0,.fact p1,.fact p2],[oS x],.fresh J (dl 110 3)⟩:=
 fM (ps:=[p0,p1,p2]) (sz:=1) (zc:=.one .nl) underlying110 rfl (λj _ h w v hv=>by
  have sl:∀i,eD L K i w v->v.cells = #[v]:=λi h=>by obtain ⟨p,n,c,rfl⟩:=slI _ _ _ i w v h;rfl
  match j,h with
  | 0,h=>
   obtain rfl:=Option.some.inj h;have e:=sl 0 (h0 w v hv);exact ⟨by rw [e];rfl,v,by rw [e],h0 w v hv⟩
  | 1,h=>
   obtain rfl:=Option.some.inj h;have e:=sl 1 (h1 w v hv);exact ⟨by rw [e];rfl,v,by rw [e],h1 w v hv⟩
  | 2,h=>
   obtain rfl:=Option.some.inj h;have e:=sl 2 (h2 w v hv);exact ⟨by rw [e];rfl,v,by rw [e],h2 w v hv⟩
  | j+3,h=>simp at h) hx
theorem acP  (h0:Im Φ p0 (eD L K 0)) (h1:Im Φ p1 (eD L K 1)) (h2:Im Φ p2 (eD L K 2)) (h3:Im Φ p3 (eD L K 3)) (hx:Φ x=Rw 1 (aK (eD L K)) 4):aj Φ prog ⟨0,[.any,.fact p0,.fact p1,.fact p2,.fact p3],[oS x],.fresh J (dl 110 4)⟩:=
 fM (ps:=[p0,p1,p2,p3]) (sz:=1) (zc:=.one .nl) underlying110 rfl (λj _ h w v hv=>by
  have sl:∀i,eD L K i w v->v.cells = #[v]:=λi h=>by obtain ⟨p,n,c,rfl⟩:=slI _ _ _ i w v h;rfl
  match j,h with
  | 0,h=>
   obtain rfl:=Option.some.inj h;have e:=sl 0 (h0 w v hv);exact ⟨by rw [e];rfl,v,by rw [e],h0 w v hv⟩
  | 1,h=>
   obtain rfl:=Option.some.inj h;have e:=sl 1 (h1 w v hv);exact ⟨by rw [e];rfl,v,by rw [e],h1 w v hv⟩
  | 2,h=>
   obtain rfl:=Option.some.inj h;have e:=sl 2 (h2 w v hv);exact ⟨by rw [e];rfl,v,by rw [e],h2 w v hv⟩
  | 3,h=>
   obtain rfl:=Option.some.inj h;have e:=sl 3 (h3 w v hv);exact ⟨by rw [e];rfl,v,by rw [e],h3 w v hv⟩
  | j+4,h=>simp at h) hx
def iW (X Y:List Int) (d:Int):Nat->List Int:=kT (adI X [d]) (adI Y [d]) (cj (adI X X) (adI Y Y)) [d*d]
theorem acQ  (hk:k<=20) (hc:c<=20) (hX:EOk c k X) (hY:EOk c k Y) (hd:EOk 1 k [d]) (j:Nat):EOk 100 100 (iW X Y d j):=
 yX ((hX.fy hd).more (by omega) (by omega)) ((hY.fy hd).more (by omega) (by omega)) (((hX.mul hX).add (hY.mul hY)).more (by omega) (by omega)) ((hd.dZ hd).more (by omega) (by omega)) j
theorem ur  (hd:ct [d]):iW X Y d=kS X Y d:=by rw [iW,kS,pA hd hd]
def acR (X0 Y0:List Int) (D0:Int) (k:Nat):List WP:=[Rw 2 (Nf (ae X0) k) X0.length,Rw 2 (Nf (ae Y0) k) Y0.length,Nw D0 k,Rw 2 (Nf (ae ([D0])) k) 1,Rw 1 (aK (eD (hO X0 Y0 [D0]) 2000)) 3,Rw 1 (aK (eD (hO X0 Y0 [D0]) 2000)) 3]
def acS:List Step:=[.base ⟨0,[.any,2],[oS 3],.fresh [] (dl 25 1)⟩,.base ⟨0,[.any,0,1,3],[oS 4],.fresh [] (dl 110 3)⟩,
   cB 73 [4] [oS 5]]
def acT:List Out:=[⟨.agg [.s,.s,.b,.s],[(0,1,0),(1,1,1),(2,2,2)]⟩]
theorem acU  (hk:k<=20) (hc:c<=20) (hX0:EOk c k X0) (hY0:EOk c k Y0) (hD0:EOk 1 k [D0]):aj (ph (acR X0 Y0 D0 k)) prog ⟨44,[.parts (.agg [.s,.s,.b,.s]) [(0,1,0),(1,1,1),(2,2,2)]],[oS 5],false⟩:=by
 have hR:=nG (hX0.more (show c<=21 by omega) (Nat.le_refl k)) (hY0.more (show c<=21 by omega) (Nat.le_refl k)) (hD0.more (show 1<=21 by omega) (Nat.le_refl k));exact adL acT [oS 5] acS func44 (by kernel_rfl) (lB (fM (ps:=[2]) (sz:=2) (n:=1) (F:=(Nf (ae ([D0])) k)) (zc:=.agg [.cb false,.nl]) underlying25 rfl (BV (F:=(Nf (ae ([D0])) k)) (λ_ _ h=>ak.mm h)) rfl) (lB (acO (L:=(hO X0 Y0 [D0])) (K:=2000) (λ_ _ h=>Rw.to (sz:=2) (n:=X0.length) (F:=(Nf (ae X0) k)) h λ_ _ _ _ h=>(ak.i h).more (by omega)) (λ_ _ h=>Rw.to (sz:=2) (n:=Y0.length) (F:=(Nf (ae Y0) k)) h λ_ _ _ _ h=>(ak.i h).more (by omega)) (λ_ _ h=>Rw.to (sz:=2) (n:=1) (F:=(Nf (ae ([D0])) k)) h λ_ _ _ _ h=>(ak.i h).more (by omega)) rfl) (lB (Ju (L:=(hO X0 Y0 [D0])) (K:=2000) ad rfl (λj=>Nat.le_trans (hR j).len (by omega)) (λj=>(hR j).nrm)) au)))
  (aP [.parts (.agg [.s,.s,.b,.s]) [(0,1,0),(1,1,1),(2,2,2)]] ⟨trivial,trivial⟩) aV
def acV (X0 Y0:List Int) (D0:Int) (k:Nat):List WP:=[Rw 2 (Nf (ae X0) k) X0.length,Rw 2 (Nf (ae Y0) k) Y0.length,Nw D0 k,Rw 2 (Nf (ae (adI X0 [D0])) 2000) ((adI X0 [D0]).length),Rw 2 (Nf (ae (adI Y0 [D0])) 2000) ((adI Y0 [D0]).length),Rw 2 (Nf (ae (cj (adI X0 X0) (adI Y0 Y0))) 2000) ((cj (adI X0 X0) (adI Y0 Y0)).length),Rw 2 (Nf (ae ([D0,D0])) k) 2,Nw (D0*D0) (k+k),Rw 2 (Nf (ae ([(D0*D0)])) (k+k)) 1,Rw 1 (aK (eD (kT (adI X0 [D0]) (adI Y0 [D0]) (cj (adI X0 X0) (adI Y0 Y0)) [(D0*D0)]) 2000)) 4,Rw 1 (aK (eD (kT (adI X0 [D0]) (adI Y0 [D0]) (cj (adI X0 X0) (adI Y0 Y0)) [(D0*D0)]) 2000)) 4]
def acW:List Step:=[cB 74 [0,2] [oS 3],
   cB 74 [1,2] [oS 4],
   cB 75 [0,1] [oS 5],.base ⟨0,[.any,2,2],[oS 6],.fresh [] (dl 24 2)⟩,
   cB 76 [6] [oI 7],.base ⟨0,[.any,7],[oS 8],.fresh [] (dl 25 1)⟩,.base ⟨0,[.any,3,4,5,8],[oS 9],.fresh [] (dl 110 4)⟩,
   cB 73 [9] [oS 10]]
def acX:List Out:=[⟨.agg [.s,.s,.b,.s],[(0,1,0),(1,1,1),(2,2,2)]⟩]
theorem acY  (hk:k<=20) (hc:c<=20) (hX0:EOk c k X0) (hY0:EOk c k Y0) (hD0:EOk 1 k [D0]):aj (ph (acV X0 Y0 D0 k)) prog ⟨45,[.parts (.agg [.s,.s,.b,.s]) [(0,1,0),(1,1,1),(2,2,2)]],[oS 10],false⟩:=by
 have hR:=acQ hk hc hX0 hY0 hD0;exact adL acX [oS 10] acW func45 (by kernel_rfl) (lB (rx (P:=X0) (y:=D0) (K:=2000) ad nN rfl (by have:=hX0.len;omega) (λi=>((hX0.fy hD0).bd i).more (by omega))) (lB (rx (P:=Y0) (y:=D0) (K:=2000) ad nN rfl (by have:=hY0.len;omega) (λi=>((hY0.fy hD0).bd i).more (by omega))) (lB (Jv (l:=k) ad ad rfl hX0 hY0) (lB (fM (ps:=[2,2]) (sz:=2) (n:=2) (F:=(Nf (ae ([D0,D0])) k)) (zc:=.agg [.cb false,.nl]) underlying24 rfl (wh (F:=(Nf (ae ([D0,D0])) k)) (λ_ _ h=>ak.mm h) (λ_ _ h=>ak.mm h)) rfl) (lB (zd (a:=D0) (b:=D0) (k:=k) ad rfl (hD0.bd 0) (hD0.bd 0)) (lB (fM (ps:=[7]) (sz:=2) (n:=1) (F:=(Nf (ae ([(D0*D0)])) (k+k))) (zc:=.agg [.cb false,.nl]) underlying25 rfl (BV (F:=(Nf (ae ([(D0*D0)])) (k+k))) (λ_ _ h=>ak.mm h)) rfl) (lB (acP (L:=(kT (adI X0 [D0]) (adI Y0 [D0]) (cj (adI X0 X0) (adI Y0 Y0)) [(D0*D0)])) (K:=2000) (λ_ _ h=>Rw.to (sz:=2) (n:=(adI X0 [D0]).length) (F:=(Nf (ae (adI X0 [D0])) 2000)) h λ_ _ _ _ h=>(ak.i h).more (by omega)) (λ_ _ h=>Rw.to (sz:=2) (n:=(adI Y0 [D0]).length) (F:=(Nf (ae (adI Y0 [D0])) 2000)) h λ_ _ _ _ h=>(ak.i h).more (by omega)) (λ_ _ h=>Rw.to (sz:=2) (n:=(cj (adI X0 X0) (adI Y0 Y0)).length) (F:=(Nf (ae (cj (adI X0 X0) (adI Y0 Y0))) 2000)) h λ_ _ _ _ h=>(ak.i h).more (by omega)) (λ_ _ h=>Rw.to (sz:=2) (n:=1) (F:=(Nf (ae ([(D0*D0)])) (k+k))) h λ_ _ _ _ h=>(ak.i h).more (by omega)) rfl) (lB (Ju (L:=(kT (adI X0 [D0]) (adI Y0 [D0]) (cj (adI X0 X0) (adI Y0 Y0)) [(D0*D0)])) (K:=2000) ad rfl (λj=>Nat.le_trans (hR j).len (by omega)) (λj=>(hR j).nrm)) au))))))))
  (aP [.parts (.agg [.s,.s,.b,.s]) [(0,1,0),(1,1,1),(2,2,2)]] ⟨trivial,trivial⟩) aV
theorem zf  (hp0:Im Φ p0 (Rw 2 (Nf (ae X0) k) X0.length)) (hq0:Im Φ q0 (Rw 2 (Nf (ae Y0) k) Y0.length)) (hr0:Im Φ r0 (Nw D0 k)) (hx:Φ x=Rw 1 (aK (eD (hO X0 Y0 [D0]) 2000)) 3) (hk:k<=20) (hc:c<=20) (hX0:EOk c k X0) (hY0:EOk c k Y0) (hD0:EOk 1 k [D0]):aj Φ prog ⟨44,[.parts cS [(0,1,p0),(1,1,q0),(2,2,r0)]],[oS x],false⟩:=
 aU (acU hk hc hX0 hY0 hD0) ⟨⟨rfl,⟨rfl,rfl,hp0⟩,⟨rfl,rfl,hq0⟩,⟨rfl,rfl,hr0⟩,trivial⟩,trivial⟩ ⟨⟨rfl,⟨rfl,rfl,λ_ _ h=>hx▸h⟩,trivial⟩,trivial⟩
theorem ut  (hp0:Im Φ p0 (Rw 2 (Nf (ae X0) k) X0.length)) (hq0:Im Φ q0 (Rw 2 (Nf (ae Y0) k) Y0.length)) (hr0:Im Φ r0 (Nw D0 k)) (hx:Φ x=Rw 1 (aK (eD (iW X0 Y0 D0) 2000)) 4) (hk:k<=20) (hc:c<=20) (hX0:EOk c k X0) (hY0:EOk c k Y0) (hD0:EOk 1 k [D0]):aj Φ prog ⟨45,[.parts cS [(0,1,p0),(1,1,q0),(2,2,r0)]],[oS x],false⟩:=
 aU (acY hk hc hX0 hY0 hD0) ⟨⟨rfl,⟨rfl,rfl,hp0⟩,⟨rfl,rfl,hq0⟩,⟨rfl,rfl,hr0⟩,trivial⟩,trivial⟩ ⟨⟨rfl,⟨rfl,rfl,λ_ _ h=>hx▸h⟩,trivial⟩,trivial⟩
end Go.Proofs.YtlmanbjkkjfjgaaGreat.Sym
