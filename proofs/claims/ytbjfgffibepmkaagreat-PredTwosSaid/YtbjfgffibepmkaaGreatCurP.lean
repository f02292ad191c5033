/- Sameness of polynomials -/
import Derived.Test.YtbjfgffibepmkaaGreatDivC
import Derived.Test.YtbjfgffibepmkaaGreatPolI
import Derived.Test.YtbjfgffibepmkaaGreatPolO
set_option maxRecDepth 100000
namespace Go.Proofs.YtbjfgffibepmkaaGreat.Sym
open Go.RowKit
variable {d:Int}{k:Nat}
def cS:bW:=.agg [.s,.s,.b,.s]
section
variable {Φ:PH}
end
section
variable {Φ:PH}
end
section
variable {Φ:PH}
end
def aA {α:Type} (a b:α):Nat->α
 | 0=>a
 | _+1=>b
def bZ (zz:Nat->Nat->Int) (ln:Nat->Nat) (d:Int) (i:Nat):Int:=if i<(aU zz ln 2).length then ae (aU zz ln 2) i else d
section
variable {zz:Nat->Nat->Int}{ln:Nat->Nat}{x y:Nat->Int}{nx ny i:Nat}
theorem pJ (h:i<(aU zz ln 2).length):ae (aU zz ln 2) i=bZ zz ln d i:=(if_pos h).symm
theorem nj:d=bZ zz ln d (aU zz ln 2).length:=(if_neg (Nat.lt_irrefl _)).symm
theorem sD:((bp (bZ zz ln d) ((aU zz ln 2).length+1):Nat):Int)∣d:=by
 have:=no (z:=bZ zz ln d) (n:=(aU zz ln 2).length+1) (aU zz ln 2).length
 rw [<- nj] at this
 exact this
theorem pK (h:d≠0):((bp (bZ zz ln d) ((aU zz ln 2).length+1):Nat):Int)≠0:=fun e=>by
 have:=sD (zz:=zz) (ln:=ln) (d:=d)
 rw [e] at this
 exact h (Int.zero_dvd.1 this)
theorem sF:aU (aA x y) (aA nx ny) 2=mk nx x ++ mk ny y:=rfl
theorem jh:(aU (aA x y) (aA nx ny) 2).length=nx+ny:=by rw [sF,List.length_append,dC,dC]
theorem xM (x y:Nat->Int):∀{j:Nat},j<=2->(aU (aA x y) (aA nx ny) j).length<=nx+ny
 | 0,_=>Nat.zero_le _
 | 1,_=>by rw [pF,show (aU (aA x y) (aA nx ny) 0).length=0 from rfl,Nat.zero_add];exact Nat.le_add_right nx ny
 | 2,_=>Nat.le_of_eq jh
theorem sG (h:i<nx:=by omega):bZ (aA x y) (aA nx ny) d i=x i:=by
 rw [<- pJ (by rw [jh];omega),sF,pG,dC,if_pos h,cM,if_pos h]
theorem sH (h:i<ny:=by omega):bZ (aA x y) (aA nx ny) d (nx+i)=y i:=by
 rw [<- pJ (by rw [jh];omega),sF,pG,dC,if_neg (by omega),Nat.add_sub_cancel_left,cM,if_pos h]
theorem xN (h:i<nx):((bp (bZ (aA x y) (aA nx ny) d) ((aU (aA x y) (aA nx ny) 2).length+1):Nat):Int)∣x i:=by
 have:=no (z:=bZ (aA x y) (aA nx ny) d) (n:=(aU (aA x y) (aA nx ny) 2).length+1) i (hi:=(by rw [jh];omega))
 rwa [sG (h:=h)] at this
theorem xO (h:i<ny):((bp (bZ (aA x y) (aA nx ny) d) ((aU (aA x y) (aA nx ny) 2).length+1):Nat):Int)∣y i:=by
 have:=no (z:=bZ (aA x y) (aA nx ny) d) (n:=(aU (aA x y) (aA nx ny) 2).length+1) (nx+i) (hi:=(by rw [jh];omega))
 rwa [sH (h:=h)] at this
end
section
variable {Φ:PH}{p q x n m j:Nat}{z y:Nat->Int}{zz:Nat->Nat->Int}{ln:Nat->Nat}
theorem xP {J:List Nat} (h0:∀w v,Φ p w v->Rw 2 (If z k) n w v) (h1:∀w v,Φ q w v->Rw 2 (If y k) m w v) (hx:Φ x=Rw 1 (gU (aA z y) (aA n m) k) 2):aj Φ Tryz.prog ⟨0,[.any,.fact p,.fact q],[oS x],.fresh J (cu 129 2)⟩:=
 eP (ps:=[p,q]) (sz:=1) (zc:=.one .nl) Tryz.underlying129 rfl (fun i r h w v hv=>by
  match i,h with
  | 0,h=>
   obtain rfl:=Option.some.inj h
   have:=xQ (h0 w v hv)
   rw [this]
   exact ⟨rfl,v,rfl,h0 w v hv⟩
  | 1,h=>
   obtain rfl:=Option.some.inj h
   have:=xQ (h1 w v hv)
   rw [this]
   exact ⟨rfl,v,rfl,h1 w v hv⟩
  | i+2,h=>simp at h) hx
theorem xR (hp:∀w v,Φ p w v->Rw 1 (gU zz ln k) n w v) (hx:Φ x=aC 2 27 (If (ae (aU zz ln n)) k) (aU zz ln n).length) (hs:∀j,j<=n->(aU zz ln j).length<=1000000) (hn:n<=1000:=by omega):aj Φ Tryz.prog ⟨123,[.fact p],[oS x],.eN [] j⟩:=
 jD (Gy hn hs) ⟨hp,trivial⟩ ⟨⟨rfl,⟨rfl,rfl,fun _ _ h=>hx▸h⟩,trivial⟩,trivial⟩
theorem ak.pos {w:World}{v:Value}{k:Nat} (h:ak w v d k) (hd:0<d):(bW.agg [.lit (.cb false),.s]).is v:=by
 obtain ⟨s,n,c,rfl⟩:=xT h
 exact ⟨[_,_],rfl,by rw [decide_eq_false (by omega)];rfl,⟨_,_,_,rfl⟩,trivial⟩
end
section
variable {Φ:PH}{p x n:Nat}{z:Nat->Int}
end
section
variable {Φ:PH}{p q r s x n ku kd kk K1 K2 K3 kp:Nat}{z:Nat->Int}{u:Int}{M L:List Int}
end
def sJ (z:Nat->Int) (n k l:Nat) (c:Int) (Z:List Int):List WP:=[Rw 2 (If z k) n,Iw c l,aC 2 27 (Nf (ae Z) k) Z.length,gW Z.length,Ni ((Z.length:Nat):Int),aC 2 27 (Nf (ec (ae Z) c Z.length) k) Z.length]
def Ig (k:Nat) (c:Int) (Z:List Int) (j:Nat):List WP:=[Nz j,aC 2 27 (Nf (ec (ae Z) c j) k) Z.length,fun _ _=>True,At 2,Ptr 2 (Nw ((ec (ae Z) c j) j) k),Nw ((ec (ae Z) c j) j) k,Nw (((ec (ae Z) c j) j) / c) k,At 2,Ptr 2 (Nw ((ec (ae Z) c j) j) k),fun w v=>aC 2 27 (fun ι w v=>ak w v ((ec (ae Z) c (j+1)) ι) k) Z.length w v,Nz (j+1)]
def xU:bJ:=⟨[0,1,3,4,7,8,9,10],[(.slot 11,.i),(.slot 5,.s)],[(.one 0,6),(.one 1,.cD [1] 7),(.one 1,.lo 1)],[.closed (.one (.ci .i64 0)),.frm 2,.frm 0],6,[(7,5)]⟩
def xV:List Step:=[bQ [6,4] oT (au .lss),.base ⟨0,[7,6],[oP 10],.joint [1] 9 (aN 24)⟩,.base ⟨0,[10],[oI 11],.kE [1] (aO 27)⟩,.base ⟨125,[11,1],[oI 12,oL (.ci .i64 0)],true⟩,.base ⟨0,[7,6],[oP 14],.joint [1] 13 (aN 24)⟩,.base ⟨0,[7,6,.any,12],[oS 15],.put [] 1 0 13 (fB 27 (.tmp 15) (.tmp 16))⟩,bQ [6,.lit (.ci .i64 1)] [oN 16] (au .add)]
def Ih:List Step:=[bQ [6,4] oF (au .lss)]
def Ii:List Step:=[.base ⟨103,[0],[oS 2],.eN [] 1⟩,.freed (.one (.s 4 0)) 2 3,bQ [3] [oN 4] (aK 24),.loop xU [(xV,[.frm 16,.frm 15,.frm 0])] Ih]
def Ij:List Out:=[oS 0,oI 1]
theorem Ik {z:Nat->Int}{n l:Nat}{c:Int}{Z:List Int} (hn:n<=1000000) (hk:k<=400000) (hl:l<=400000) (hZ:an (mk n z)=Z) (hc:0<Z.length->c≠0) (hd:∀i,i<Z.length->c∣ae Z i):aj (ph (sJ z n k l c Z)) Tryz.prog ⟨126,[0,1],[oS 5],false⟩:=by
 have hZl:Z.length<=n:=by rw [<- hZ,eQ];exact bi _ _
 exact aQ Ij [oS 5] Ii Tryz.func126 (by kernel_rfl) (lB (Il (Rw.To 2 (If z k) n (fun _ _ _ _ h=>h)) rfl hZ) (lR (nt (e:=27) (sz:=2) (n:=Z.length) (F:=(Nf (ae Z) k)) ad rfl) (lB (lS (n:=Z.length) Tryz.underlying24 ad rfl) (cm (counted Z.length (fun j=>ph (sJ z n k l c Z ++ Ig k c Z j)) (fun _=>0) (fun j p hp=>cn (show p<(sJ z n k l c Z).length from hp)) ⟨fun _=>rfl,fun _ _ h=>aC.to (sz:=2) (e:=27) (n:=Z.length) (F:=fun ι w v=>ak w v (ae Z ι) k) (G:=fun ι w v=>ak w v (ec (ae Z) c 0 ι) k) h fun a w v ha h=>by rw [Im];exact h,bS,trivial⟩ (fun j hj=>by
   skip
   exact ⟨(xV,[.frm 16,.frm 15,.frm 0]),rfl,⟨ad,ad,bS,trivial⟩,(lB (bH ad ad) (lB (fL (i:=j) (sz:=2) (n:=Z.length) (F:=(Nf (ec (ae Z) c j) k)) Tryz.underlying24 (fun _ _ h=>aC.arr h) ad rfl rfl) (lB (sK (sz:=2) (F:=Nw ((ec (ae Z) c j) j) k) ad (fun _ _ _ g h=>ak.kp h g) (fun _ _ h=>ak.is h) rfl) (lB (sL nI iI rfl (hc (by omega)) (by rw [xW];exact hd j hj) rfl) (lB (fL (i:=j) (sz:=2) (n:=Z.length) (F:=(Nf (ec (ae Z) c j) k)) Tryz.underlying24 (fun _ _ h=>aC.arr h) ad rfl rfl) (lB (iz (i:=j) (n:=Z.length) (F:=(fun ι w v=>ak w v ((ec (ae Z) c j) ι) k)) (F':=(fun ι w v=>ak w v ((ec (ae Z) c (j+1)) ι) k)) (G:=Nw (((ec (ae Z) c j) j) / c) k) (.tmp 15) (.tmp 16) ad ad ad rfl (fun _ _ h=>ak.cells h) (fun _ _ _ _ g h=>ak.kp h g) (fun _ _ _ g h=>ak.kp h g) (fun a w v ha h=>by rw [In ha];exact h) (fun w v h=>h.eq Io) rfl) (lB (ct ad rfl) aD)))))))⟩) (lB (tlF ad ad) aD)
   (fun q hq w v h=>by
    simp only [xU,List.mem_cons,List.not_mem_nil,or_false] at hq
    rcases hq with rfl
    ·exact (fun h=>h) h)) aD))))
  (aM [.fact 0 (.one (.s)),.fact 1 (.agg [.b,.s])] ⟨Rw.Is 2 (If z k) n,fun _ _ h=>aF.is h,trivial⟩) aV
section
variable {Φ:PH}{p q x n l:Nat}{z:Nat->Int}{c:Int}{L:List Int}
theorem pL (hp:∀w v,Φ p w v->Rw 2 (If z k) n w v) (hq:∀w v,Φ q w v->aF w v c l) (hx:Φ x=Rw 2 (Nf (ae L) k) L.length) (hc:0<tl z n->c≠0) (hd:∀i,i<tl z n->c∣z i) (hL:dvL z n c=L) (hn:n<=1000000:=by omega) (hk:k<=400000:=by omega) (hl:l<=400000:=by omega):aj Φ Tryz.prog ⟨126,[.fact p,.fact q],[oS x],false⟩:=by
 have hT:(an (mk n z)).length=tl z n:=eQ n z
 have hZ:∀i,i<tl z n->ae (an (mk n z)) i=z i:=fun i hi=>by
  have:=bi z n
  rw [fM,cM,if_pos (by omega)]
 refine aT (Ik (c:=c) (l:=l) (Z:=an (mk n z)) hn hk hl rfl (by rw [hT];exact hc) (fun i hi=>by rw [hT] at hi;rw [hZ i hi];exact hd i hi)) ⟨hp,hq,trivial⟩ ⟨⟨rfl,⟨rfl,rfl,fun _ _ h=>?_⟩,trivial⟩,trivial⟩
 rw [hx,<- hL,dvL,dC,<- hT]
 exact Rw.to (sz:=2) (n:=(an (mk n z)).length) (F:=Nf (ec (ae (an (mk n z))) c (an (mk n z)).length) k) (aC.rw (e:=27) h) fun i w v hi h=>h.eq (by
  rw [ec,if_pos hi,cM,if_pos hi,hZ i (hT▸hi)])
end
def Ip (x y:Nat->Int) (nx ny k:Nat) (d:Int) (X Y:List Int):List WP:=[Rw 2 (If x k) nx,Rw 2 (If y k) ny,Nw d k,Rw 1 (gU (aA x y) (aA nx ny) k) 2,aC 2 27 (If (ae (aU (aA x y) (aA nx ny) 2)) k) ((aU (aA x y) (aA nx ny) 2).length),aC 2 27 (If (bZ (aA x y) (aA nx ny) d) k) ((aU (aA x y) (aA nx ny) 2).length+1),Nw (bp (bZ (aA x y) (aA nx ny) d) ((aU (aA x y) (aA nx ny) 2).length+1):Int) k,Nw (d / (bp (bZ (aA x y) (aA nx ny) d) ((aU (aA x y) (aA nx ny) 2).length+1):Int)) k,Rw 2 (Nf (ae X) k) X.length,Rw 2 (Nf (ae Y) k) Y.length]
def Iq:List Step:=[.base ⟨0,[.any,0,1],[oS 3],.fresh [] (cu 129 2)⟩,.base ⟨123,[3],[oS 4],.eN [] 1⟩,.base ⟨0,[4,.row 2 [2]],[oS 5],.loose [] 1 0 (bO 24 24)⟩,.base ⟨122,[5],[oI 6],.dF [1] false⟩,.base ⟨125,[2,6],[oI 7,oL (.ci .i64 0)],.dF [1] true⟩,.base ⟨126,[0,6],[oS 8],.dF [1] false⟩,.base ⟨126,[1,6],[oS 9],.dF [1] false⟩]
def Ir:List Out:=[oS 0,oS 1,⟨.agg [.lit (.cb false),.s],[(0,0,2)]⟩]
theorem Iu {x y:Nat->Int}{nx ny:Nat}{X Y:List Int} (hx:nx<=400000) (hy:ny<=400000) (hk:k<=400000) (hX:dvL x nx ((bp (bZ (aA x y) (aA nx ny) d) ((aU (aA x y) (aA nx ny) 2).length+1):Nat):Int)=X) (hY:dvL y ny ((bp (bZ (aA x y) (aA nx ny) d) ((aU (aA x y) (aA nx ny) 2).length+1):Nat):Int)=Y) (hd:d≠0:=by omega):aj (ph (Ip x y nx ny k d X Y)) Tryz.prog ⟨80,[0,1,.parts (.agg [.lit (.cb false),.s]) [(0,0,2)]],[⟨.agg [.s,.s,.b,.s],[(0,1,8),(1,1,9),(2,2,7)]⟩],false⟩:=by
 have hs:∀j,j<=2->(aU (aA x y) (aA nx ny) j).length<=1000000:=fun j hj=>Nat.le_trans (xM x y hj) (by omega)
 have hl:=hs 2 (by omega)
 have hg0:((bp (bZ (aA x y) (aA nx ny) d) ((aU (aA x y) (aA nx ny) 2).length+1):Nat):Int)≠0:=pK hd
 have hgd:((bp (bZ (aA x y) (aA nx ny) d) ((aU (aA x y) (aA nx ny) 2).length+1):Nat):Int)∣d:=sD
 have hgx:∀i,i<tl x nx->((bp (bZ (aA x y) (aA nx ny) d) ((aU (aA x y) (aA nx ny) 2).length+1):Nat):Int)∣x i:=fun i hi=>xN (Nat.lt_of_lt_of_le hi (bi _ _))
 have hgy:∀i,i<tl y ny->((bp (bZ (aA x y) (aA nx ny) d) ((aU (aA x y) (aA nx ny) 2).length+1):Nat):Int)∣y i:=fun i hi=>xO (Nat.lt_of_lt_of_le hi (bi _ _))
 exact aQ Ir [⟨.agg [.s,.s,.b,.s],[(0,1,8),(1,1,9),(2,2,7)]⟩] Iq Tryz.func80 (by kernel_rfl) (lB (xP (z:=x) (y:=y) (n:=nx) (m:=ny) (Rw.To 2 (If x k) nx (fun _ _ _ _ h=>h)) (Rw.To 2 (If y k) ny (fun _ _ _ _ h=>h)) rfl) (lB (xR (n:=2) ad rfl hs) (lB (nw (n:=(aU (aA x y) (aA nx ny) 2).length) (F:=(fun ι w v=>aF w v ((bZ (aA x y) (aA nx ny) d) ι) k)) (fun _ _ _ _ g h=>aF.kp h g) (fun _ _ h=>aC.to (sz:=2) (e:=27) (n:=(aU (aA x y) (aA nx ny) 2).length) (F:=(fun ι w v=>aF w v ((ae (aU (aA x y) (aA nx ny) 2)) ι) k)) (G:=(fun ι w v=>aF w v ((bZ (aA x y) (aA nx ny) d) ι) k)) h fun a w v ha h=>by rw [<- pJ ha];exact h) (fun _ _ h=>by rw [<- nj];exact ak.i h) (fun _ _ h=>ak.eO h) rfl) (lB (eF [1] (xX ad rfl)) (lB (eF [1] (sL nI nI rfl (hg0) (hgd) rfl)) (lB (eF [1] (pL (z:=x) (n:=nx) (Rw.To 2 (If x k) nx (fun _ _ _ _ h=>h)) nI rfl (fun _=>hg0) (hgx) (hX))) (lB (eF [1] (pL (z:=y) (n:=ny) (Rw.To 2 (If y k) ny (fun _ _ _ _ h=>h)) nI rfl (fun _=>hg0) (hgy) (hY))) aD)))))))
  (aM [.fact 0 (.one (.s)),.fact 1 (.one (.s)),.parts (.agg [.lit (.cb false),.s]) [(0,0,2)]] ⟨Rw.Is 2 (If x k) nx,Rw.Is 2 (If y k) ny,trivial,trivial⟩) aV
section
variable {Φ:PH}{p q r p0 p1 p2 nx ny:Nat}{x y:Nat->Int}{D:Int}{X Y:List Int}
theorem Iv (hp:∀w v,Φ p w v->Rw 2 (If x k) nx w v) (hq:∀w v,Φ q w v->Rw 2 (If y k) ny w v) (hr:∀w v,Φ r w v->ak w v d k) (h0:Φ p0=Rw 2 (Nf (ae X) k) X.length) (h1:Φ p1=Rw 2 (Nf (ae Y) k) Y.length) (h2:Φ p2=Nw D k)
  (hx:nx<=400000) (hy:ny<=400000) (hk:k<=400000) (hd:0<d) (hX:dvL x nx ((bp (bZ (aA x y) (aA nx ny) d) ((aU (aA x y) (aA nx ny) 2).length+1):Nat):Int)=X) (hY:dvL y ny ((bp (bZ (aA x y) (aA nx ny) d) ((aU (aA x y) (aA nx ny) 2).length+1):Nat):Int)=Y) (hD:d / ((bp (bZ (aA x y) (aA nx ny) d) ((aU (aA x y) (aA nx ny) 2).length+1):Nat):Int)=D) :
  aj Φ Tryz.prog ⟨80,[.fact p,.fact q,.fact r],[⟨.agg [.s,.s,.b,.s],[(0,1,p0),(1,1,p1),(2,2,p2)]⟩],false⟩:=
 aT (Iu (x:=x) (y:=y) (nx:=nx) (ny:=ny) (k:=k) (d:=d) hx hy hk hX hY) ⟨hp,hq,⟨fun _ _ h=>ak.pos (hr _ _ h) hd,hr,trivial⟩,trivial⟩ ⟨⟨rfl,⟨rfl,rfl,fun _ _ h=>h0▸h⟩,⟨rfl,rfl,fun _ _ h=>h1▸h⟩,⟨rfl,rfl,fun _ _ h=>h2▸hD▸h⟩,trivial⟩,trivial⟩
end
end Go.Proofs.YtbjfgffibepmkaaGreat.Sym
