/- curve.Make for every den -/
import Derived.Test.YtbjfgffibepmkaaGreatPrM
set_option maxRecDepth 100000
namespace Go.Proofs.YtbjfgffibepmkaaGreat.Sym
open Go.Proofs.Tryz
open Go.RowKit
variable {D d:Int}{x y:Nat->Int}{k nx ny:Nat}{X Y:List Int}
theorem ak.SH {w:World}{v:Value}{k:Nat} (h:ak w v d k) (hd:d<0):(bW.agg [.lit (.cb true),.s]).is v:=by
 obtain ⟨s,n,c,rfl⟩:=xT h
 exact ⟨[_,_],rfl,by rw [decide_eq_true hd];rfl,⟨_,_,_,rfl⟩,trivial⟩
def SI (x y:Nat->Int) (nx ny k:Nat) (d:Int) (X Y:List Int):List WP:=[Rw 2 (If x k) nx,Rw 2 (If y k) ny,Nw d k,Rw 1 (gU (aA x y) (aA nx ny) k) 2,aC 2 27 (If (ae (aU (aA x y) (aA nx ny) 2)) k) ((aU (aA x y) (aA nx ny) 2).length),aC 2 27 (If (bZ (aA x y) (aA nx ny) d) k) ((aU (aA x y) (aA nx ny) 2).length+1),Nw (bp (bZ (aA x y) (aA nx ny) d) ((aU (aA x y) (aA nx ny) 2).length+1):Int) k,Nw (-(bp (bZ (aA x y) (aA nx ny) d) ((aU (aA x y) (aA nx ny) 2).length+1):Int)) k,Nw (d / (-(bp (bZ (aA x y) (aA nx ny) d) ((aU (aA x y) (aA nx ny) 2).length+1):Int))) k,Rw 2 (Nf (ae X) k) X.length,Rw 2 (Nf (ae Y) k) Y.length]
def SJ:List Step:=[.base ⟨0,[.any,0,1],[oS 3],.fresh [] (cu 129 2)⟩,.base ⟨123,[3],[oS 4],.eN [] 1⟩,.base ⟨0,[4,.row 2 [2]],[oS 5],.loose [] 1 0 (bO 24 24)⟩,.base ⟨122,[5],[oI 6],.dF [1] false⟩,.base ⟨124,[6],[oI 7],.dF [1] false⟩,.base ⟨125,[2,7],[oI 8,oL (.ci .i64 0)],.dF [1] true⟩,.base ⟨126,[0,7],[oS 9],.dF [1] false⟩,.base ⟨126,[1,7],[oS 10],.dF [1] false⟩]
def SK:List Out:=[oS 0,oS 1,⟨.agg [.lit (.cb true),.s],[(0,0,2)]⟩]
theorem SM  (hx:nx<=400000) (hy:ny<=400000) (hk:k<=400000) (hd:d≠0) (hX:dvL x nx (-((bp (bZ (aA x y) (aA nx ny) d) ((aU (aA x y) (aA nx ny) 2).length+1):Nat):Int))=X) (hY:dvL y ny (-((bp (bZ (aA x y) (aA nx ny) d) ((aU (aA x y) (aA nx ny) 2).length+1):Nat):Int))=Y):aj (ph (SI x y nx ny k d X Y)) prog ⟨80,[0,1,.parts (.agg [.lit (.cb true),.s]) [(0,0,2)]],[⟨.agg [.s,.s,.b,.s],[(0,1,9),(1,1,10),(2,2,8)]⟩],false⟩:=by
 have hs:∀j,j<=2->(aU (aA x y) (aA nx ny) j).length<=1000000:=fun j hj=>Nat.le_trans (xM x y hj) (by omega)
 have hl:=hs 2 (by omega)
 have hg0:(-((bp (bZ (aA x y) (aA nx ny) d) ((aU (aA x y) (aA nx ny) 2).length+1):Nat):Int))≠0:=Int.neg_ne_zero.2 (pK hd)
 have hgd:(-((bp (bZ (aA x y) (aA nx ny) d) ((aU (aA x y) (aA nx ny) 2).length+1):Nat):Int))∣d:=Int.neg_dvd.2 sD
 have hgx:∀i,i<tl x nx->(-((bp (bZ (aA x y) (aA nx ny) d) ((aU (aA x y) (aA nx ny) 2).length+1):Nat):Int))∣x i:=fun i hi=>Int.neg_dvd.2 (xN (Nat.lt_of_lt_of_le hi (bi _ _)))
 have hgy:∀i,i<tl y ny->(-((bp (bZ (aA x y) (aA nx ny) d) ((aU (aA x y) (aA nx ny) 2).length+1):Nat):Int))∣y i:=fun i hi=>Int.neg_dvd.2 (xO (Nat.lt_of_lt_of_le hi (bi _ _)))
 exact aQ SK [⟨.agg [.s,.s,.b,.s],[(0,1,9),(1,1,10),(2,2,8)]⟩] SJ func80 (by kernel_rfl) (lB (xP (z:=x) (y:=y) (n:=nx) (m:=ny) (Rw.To 2 (If x k) nx (fun _ _ _ _ h=>h)) (Rw.To 2 (If y k) ny (fun _ _ _ _ h=>h)) rfl) (lB (xR (n:=2) ad rfl hs) (lB (nw (n:=(aU (aA x y) (aA nx ny) 2).length) (F:=(fun ι w v=>aF w v ((bZ (aA x y) (aA nx ny) d) ι) k)) (fun _ _ _ _ g h=>aF.kp h g) (fun _ _ h=>aC.to (sz:=2) (e:=27) (n:=(aU (aA x y) (aA nx ny) 2).length) (F:=(fun ι w v=>aF w v ((ae (aU (aA x y) (aA nx ny) 2)) ι) k)) (G:=(fun ι w v=>aF w v ((bZ (aA x y) (aA nx ny) d) ι) k)) h fun a w v ha h=>by rw [<- pJ ha];exact h) (fun _ _ h=>by rw [<- nj];exact ak.i h) (fun _ _ h=>ak.eO h) rfl) (lB (eF [1] (xX ad rfl)) (lB (eF [1] (SN nI rfl rfl)) (lB (eF [1] (sL nI nI rfl (hg0) (hgd) rfl)) (lB (eF [1] (pL (z:=x) (n:=nx) (Rw.To 2 (If x k) nx (fun _ _ _ _ h=>h)) nI rfl (fun _=>hg0) (hgx) (hX))) (lB (eF [1] (pL (z:=y) (n:=ny) (Rw.To 2 (If y k) ny (fun _ _ _ _ h=>h)) nI rfl (fun _=>hg0) (hgy) (hY))) aD))))))))
  (aM [.fact 0 (.one (.s)),.fact 1 (.one (.s)),.parts (.agg [.lit (.cb true),.s]) [(0,0,2)]] ⟨Rw.Is 2 (If x k) nx,Rw.Is 2 (If y k) ny,trivial,trivial⟩) aV
section
variable {Φ:PH}{p q r p0 p1 p2:Nat}
theorem SO (hp:∀w v,Φ p w v->Rw 2 (If x k) nx w v) (hq:∀w v,Φ q w v->Rw 2 (If y k) ny w v) (hr:∀w v,Φ r w v->ak w v d k) (h0:Φ p0=Rw 2 (Nf (ae X) k) X.length) (h1:Φ p1=Rw 2 (Nf (ae Y) k) Y.length) (h2:Φ p2=Nw D k) (hx:nx<=400000) (hy:ny<=400000) (hk:k<=400000) (hd:d≠0) (hC:fX x y nx ny d X Y D):aj Φ prog ⟨80,[.fact p,.fact q,.fact r],[⟨.agg [.s,.s,.b,.s],[(0,1,p0),(1,1,p1),(2,2,p2)]⟩],false⟩:=by
 obtain ⟨hX,hY,hD⟩:=hC
 have he:ceE d=d:=if_neg hd
 rw [he] at hX hY hD
 rcases Int.lt_or_gt_of_ne hd with h | h
 ·obtain ⟨-,e1,e2,e3⟩:=Dz (s:=-1) (x:=x) (y:=y) (n:=nx) (m:=ny) hd (.inr rfl) (Int.neg_one_mul _)
  refine aT (SM (x:=x) (y:=y) (nx:=nx) (ny:=ny) (k:=k) (d:=d) hx hy hk hd (e1.trans hX) (e2.trans hY)) ⟨hp,hq,⟨fun _ _ h'=>ak.SH (hr _ _ h') h,hr,trivial⟩,trivial⟩ ⟨⟨rfl,⟨rfl,rfl,fun _ _ h=>h0▸h⟩,⟨rfl,rfl,fun _ _ h=>h1▸h⟩,⟨rfl,rfl,fun _ _ h=>by rw [h2,<- hD,<- e3];exact h⟩,trivial⟩,trivial⟩
 ·obtain ⟨-,e1,e2,e3⟩:=Dz (s:=1) (x:=x) (y:=y) (n:=nx) (m:=ny) hd (.inl rfl) (Int.one_mul _)
  exact Iv hp hq hr h0 h1 h2 hx hy hk h (e1.trans hX) (e2.trans hY) (e3.trans hD)
end
def SP (x y:Nat->Int) (nx ny k:Nat) (d D:Int) (X Y:List Int):List WP:=[Rw 2 (If x k) nx,Rw 2 (If y k) ny,Iw d k,Nw d k,Rw 2 (Nf (ae X) k) X.length,Rw 2 (Nf (ae Y) k) Y.length,Nw D k]
def SQ:List Step:=[.base ⟨78,[2],[oI 3],false⟩,.base ⟨79,[3],oF,false⟩,.base ⟨80,[0,1,3],[⟨.agg [.s,.s,.b,.s],[(0,1,4),(1,1,5),(2,2,6)]⟩],false⟩]
def SR:List Out:=[oS 0,oS 1,oI 2]
theorem SS  (hx:nx<=400000) (hy:ny<=400000) (hk:k<=400000) (hd:d≠0) (hC:fX x y nx ny d X Y D):aj (ph (SP x y nx ny k d D X Y)) prog ⟨42,[0,1,2],[⟨.agg [.s,.s,.b,.s],[(0,1,4),(1,1,5),(2,2,6)]⟩,oL (.ci .i64 0)],true⟩:=aQ SR [⟨.agg [.s,.s,.b,.s],[(0,1,4),(1,1,5),(2,2,6)]⟩,oL (.ci .i64 0)] SQ func42 (by kernel_rfl) (lB (pX iI rfl rfl) (lB (DB nN (decide_eq_false hd)) (lB (SO (x:=x) (y:=y) (nx:=nx) (ny:=ny) (d:=d) (X:=X) (Y:=Y) (D:=D) (k:=k) (Rw.To 2 (If x k) nx (fun _ _ _ _ h=>h)) (Rw.To 2 (If y k) ny (fun _ _ _ _ h=>h)) ad rfl rfl rfl hx hy hk hd hC) aD)))
  (aM [.fact 0 (.one (.s)),.fact 1 (.one (.s)),.fact 2 (.agg [.b,.s])] ⟨Rw.Is 2 (If x k) nx,Rw.Is 2 (If y k) ny,fun _ _ h=>aF.is h,trivial⟩) aV
def ST (x y:Nat->Int) (nx ny k:Nat):List WP:=[Rw 2 (If x k) nx,Rw 2 (If y k) ny,Iw (0:Int) k,Nw (0:Int) k]
def SU:List Step:=[.base ⟨78,[2],[oI 3],false⟩,.base ⟨79,[3],oT,false⟩]
def SW:List Out:=[oS 0,oS 1,oI 2]
theorem SX  (hk:k<=400000):aj (ph (ST x y nx ny k)) prog ⟨42,[0,1,2],[⟨.agg [.lit (.nl),.lit (.nl),.lit (.cb false),.lit (.nl)],[]⟩,oL (.ci .i64 2)],true⟩:=aQ SW [⟨.agg [.lit (.nl),.lit (.nl),.lit (.cb false),.lit (.nl)],[]⟩,oL (.ci .i64 2)] SU func42 (by kernel_rfl) (lB (pX iI rfl rfl) (lB (DB nN rfl) aD))
  (aM [.fact 0 (.one (.s)),.fact 1 (.one (.s)),.fact 2 (.agg [.b,.s])] ⟨Rw.Is 2 (If x k) nx,Rw.Is 2 (If y k) ny,fun _ _ h=>aF.is h,trivial⟩) aV
section
variable {Φ:PH}{p q r p0 p1 p2:Nat}
theorem SY (hp:∀w v,Φ p w v->Rw 2 (If x k) nx w v) (hq:∀w v,Φ q w v->Rw 2 (If y k) ny w v) (hr:∀w v,Φ r w v->aF w v d k) (h0:Φ p0=Rw 2 (Nf (ae X) k) X.length) (h1:Φ p1=Rw 2 (Nf (ae Y) k) Y.length) (h2:Φ p2=Nw D k) (hx:nx<=400000) (hy:ny<=400000) (hk:k<=400000) (hd:d≠0) (hC:fX x y nx ny d X Y D):aj Φ prog ⟨42,[.fact p,.fact q,.fact r],[⟨.agg [.s,.s,.b,.s],[(0,1,p0),(1,1,p1),(2,2,p2)]⟩,oL (.ci .i64 0)],true⟩:=
 aT (SS hx hy hk hd hC) ⟨hp,hq,hr,trivial⟩ ⟨⟨rfl,⟨rfl,rfl,fun _ _ h=>h0▸h⟩,⟨rfl,rfl,fun _ _ h=>h1▸h⟩,⟨rfl,rfl,fun _ _ h=>h2▸h⟩,trivial⟩,⟨rfl,trivial⟩,trivial⟩
theorem SZ (hp:∀w v,Φ p w v->Rw 2 (If x k) nx w v) (hq:∀w v,Φ q w v->Rw 2 (If y k) ny w v) (hr:∀w v,Φ r w v->aF w v 0 k) (hk:k<=400000):aj Φ prog ⟨42,[.fact p,.fact q,.fact r],[⟨.agg [.lit .nl,.lit .nl,.lit (.cb false),.lit .nl],[]⟩,oL (.ci .i64 2)],true⟩:=
 aT (SX (x:=x) (y:=y) (nx:=nx) (ny:=ny) hk) ⟨hp,hq,hr,trivial⟩ ⟨⟨rfl,trivial⟩,⟨rfl,trivial⟩,trivial⟩
end
theorem DC (a:Int):(((a:Int):Rat)*aW 1 (ceE 0)).den=1:=by
 rw [show ceE 0=1 from rfl,lW,<- Rat.intCast_mul];rfl
theorem rf (z:Nat->Int) (n:Nat):an (mk n z)=ff (ceE 0) 1 z n:=by
 have h:∀i,aE (ceE 0) z i=((z i:Int):Rat):=fun i=>by
  rw [aE,show ceE 0=1 from rfl,lW,<- Rat.intCast_mul,Int.mul_one]
 refine List.ext_getElem (by rw [eQ,ff,dC]) fun i hi hi'=>?_
 have h1:=nz (L:=an (mk n z)) rfl i (by rwa [eQ] at hi)
 have h2:ae (ff (ceE 0) 1 z n) i=z i:=by
  rw [ff,dC] at hi'
  rw [ff,cM,if_pos hi',cuX,h]
  show z i*((1 / 1:Nat):Int)=_
  rw [Nat.div_self (by omega)]
  exact Int.mul_one _
 simp only [ae,List.getD_eq_getElem?_getD,List.getElem?_eq_getElem hi,List.getElem?_eq_getElem hi',Option.getD_some] at h1 h2
 rw [h1,h2]
def Ta (x y:Nat->Int) (nx ny k:Nat) (d D:Int) (X Y:List Int):List WP:=[Rw 2 (If x k) nx,Rw 2 (If y k) ny,Iw d k,Rw 2 (Nf (ae X) k) X.length,Rw 2 (Nf (ae Y) k) Y.length,Nw D k]
def Tb:List Step:=[.base ⟨42,[0,1,2],[⟨.agg [.s,.s,.b,.s],[(0,1,3),(1,1,4),(2,2,5)]⟩,oL (.ci .i64 0)],true⟩]
def Tc:List Out:=[⟨.agg [.s,.s,.b,.s],[(0,1,0),(1,1,1),(2,2,2)]⟩]
theorem Te  (hx:nx<=400000) (hy:ny<=400000) (hk:k<=400000) (hd:d≠0) (hC:fX x y nx ny d X Y D):aj (ph (Ta x y nx ny k d D X Y)) prog ⟨53,[.parts (.agg [.s,.s,.b,.s]) [(0,1,0),(1,1,1),(2,2,2)]],[⟨.agg [.s,.s,.b,.s],[(0,1,3),(1,1,4),(2,2,5)]⟩],false⟩:=aQ Tc [⟨.agg [.s,.s,.b,.s],[(0,1,3),(1,1,4),(2,2,5)]⟩] Tb func53 (by kernel_rfl) (lB (SY (x:=x) (y:=y) (nx:=nx) (ny:=ny) (k:=k) (d:=d) (X:=X) (Y:=Y) (D:=D) (Rw.To 2 (If x k) nx (fun _ _ _ _ h=>h)) (Rw.To 2 (If y k) ny (fun _ _ _ _ h=>h)) iI rfl rfl rfl hx hy hk hd hC) aD)
  (aM [.parts (.agg [.s,.s,.b,.s]) [(0,1,0),(1,1,1),(2,2,2)]] ⟨trivial,trivial⟩) aV
def Tf (x y:Nat->Int) (nx ny k:Nat) (X Y:List Int):List WP:=[Rw 2 (If x k) nx,Rw 2 (If y k) ny,Iw (0:Int) k,Rw 2 (Nf (ae X) k) X.length,Rw 2 (Nf (ae Y) k) Y.length,Nw (1:Int) 2]
def Tg:List Step:=[.base ⟨42,[0,1,2],[⟨.agg [.lit (.nl),.lit (.nl),.lit (.cb false),.lit (.nl)],[]⟩,oL (.ci .i64 2)],true⟩,.base ⟨64,[0,1],[⟨.agg [.s,.s,.b,.s],[(0,1,3),(1,1,4),(2,2,5)]⟩],false⟩]
def Th:List Out:=[⟨.agg [.s,.s,.b,.s],[(0,1,0),(1,1,1),(2,2,2)]⟩]
theorem Ti  (hx:nx<=400000) (hy:ny<=400000) (hk:k<=400000) (hX:an (mk nx x)=X) (hY:an (mk ny y)=Y):aj (ph (Tf x y nx ny k X Y)) prog ⟨53,[.parts (.agg [.s,.s,.b,.s]) [(0,1,0),(1,1,1),(2,2,2)]],[⟨.agg [.s,.s,.b,.s],[(0,1,3),(1,1,4),(2,2,5)]⟩],false⟩:=aQ Th [⟨.agg [.s,.s,.b,.s],[(0,1,3),(1,1,4),(2,2,5)]⟩] Tg func53 (by kernel_rfl) (lB (SZ (x:=x) (y:=y) (nx:=nx) (ny:=ny) (k:=k) (Rw.To 2 (If x k) nx (fun _ _ _ _ h=>h)) (Rw.To 2 (If y k) ny (fun _ _ _ _ h=>h)) iI hk) (lB (yF (x:=x) (y:=y) (k:=k) (Rw.To 2 (If x k) nx (fun _ _ _ _ h=>h)) (Rw.To 2 (If y k) ny (fun _ _ _ _ h=>h)) rfl rfl rfl hX hY) aD))
  (aM [.parts (.agg [.s,.s,.b,.s]) [(0,1,0),(1,1,1),(2,2,2)]] ⟨trivial,trivial⟩) aV
section
variable {Φ:PH}{p q r p0 p1 p2:Nat}
theorem ij (hp:∀w v,Φ p w v->Rw 2 (If x k) nx w v) (hq:∀w v,Φ q w v->Rw 2 (If y k) ny w v) (hr:∀w v,Φ r w v->aF w v d k) (h0:Φ p0=Rw 2 (Nf (ae X) k) X.length) (h1:Φ p1=Rw 2 (Nf (ae Y) k) Y.length) (h2:Φ p2=Nw D k) (hk1:1<=k) (hC:fX x y nx ny d X Y D) (hx:nx<=400000:=by omega) (hy:ny<=400000:=by omega) (hk:k<=400000:=by omega):aj Φ prog ⟨53,[.parts cS [(0,1,p),(1,1,q),(2,2,r)]],[⟨.agg [.s,.s,.b,.s],[(0,1,p0),(1,1,p1),(2,2,p2)]⟩],false⟩:=by
 by_cases hd:d=0
 ·subst hd
  obtain ⟨hX,hY,hD⟩:=hC
  have h1':di (ceE 0) x y nx ny=1:=tf (fun i=>by unfold bc aE;split <;> exact DC _) _
  rw [h1'] at hX hY hD
  subst hD
  refine aT (Ti (x:=x) (y:=y) (nx:=nx) (ny:=ny) (k:=k) hx hy hk ((rf x nx).trans hX) ((rf y ny).trans hY)) ⟨⟨rfl,⟨rfl,rfl,hp⟩,⟨rfl,rfl,hq⟩,⟨rfl,rfl,hr⟩,trivial⟩,trivial⟩ ⟨⟨rfl,⟨rfl,rfl,fun _ _ h=>h0▸h⟩,⟨rfl,rfl,fun _ _ h=>h1▸h⟩,⟨rfl,rfl,fun _ _ h=>by rw [h2];exact ak.re h (gF hk1)⟩,trivial⟩,trivial⟩
 ·exact aT (Te hx hy hk hd hC) ⟨⟨rfl,⟨rfl,rfl,hp⟩,⟨rfl,rfl,hq⟩,⟨rfl,rfl,hr⟩,trivial⟩,trivial⟩ ⟨⟨rfl,⟨rfl,rfl,fun _ _ h=>h0▸h⟩,⟨rfl,rfl,fun _ _ h=>h1▸h⟩,⟨rfl,rfl,fun _ _ h=>h2▸h⟩,trivial⟩,trivial⟩
end
end Go.Proofs.YtbjfgffibepmkaaGreat.Sym
