/- Sameness of polynomials and of curves in the form of a result; layer 12's is. curve's degree, moved, divided, lowest, Rebase. -/
import Derived.Test.YthmcngjhkmpneaaGreatPolH
import Derived.Test.YthmcngjhkmpneaaGreatDivC
import Derived.Test.YthmcngjhkmpneaaGreatPolI
import Derived.Test.YthmcngjhkmpneaaGreatPolO
set_option maxRecDepth 100000
namespace Go.Proofs.YthmcngjhkmpneaaGreat.Sym
open Go.RowKit
def cS:aR:=.agg [.s,.s,.b,.s]
def oG (z:Nat->Int) (n k l:Nat):List WP:=[Rw 2 (Nf z k) n,Rw 2 (Nf z l) n,Nz n,Nz n,Nz n]
def AC (z:Nat->Int) (k l:Nat) (j:Nat):List WP:=[Nz j,Ptr 2 (Nw (z j) k),Nw (z j) k,Ptr 2 (Nw (z j) l),Nw (z j) l,Nz (j+1)]
def AD:bj:=⟨[0,1,4,6,7,8,9,10,11,12],[(.slot 13,.i)],[(.one 0,5)],[.closed (.one (.ci .i64 0))],5,[]⟩
def td:List Step:=[bQ [.fact 5,.fact 4] oT (au .lss),
   bQ [.fact 0,.fact 5] [oP 6] (aO 28),
   bQ [.fact 6] [oI 7] (aS 51),
   bQ [.fact 1,.fact 5] [oP 8] (aO 28),
   bQ [.fact 8] [oI 9] (aS 51),
   .base ⟨91,[.fact 7,.fact 9],oT,false⟩,
   bQ [.fact 5,.lit (.ci .i64 1)] [oN 10] (au .add)]
def AE:List Step:=[bQ [.fact 5,.fact 4] oF (au .lss)]
def AF:List Step:=[bQ [.fact 0] [oN 2] (aI 28),
   bQ [.fact 1] [oN 3] (aI 28),
   bQ [.fact 2,.fact 3] oF (au .neq),
   bQ [.fact 0] [oN 4] (aI 28),
   .loop AD [(td,[.frm 10])] AE]
def AG:List Out:=[oS 0,oS 1]
theorem AH {z:Nat->Int}{n k l:Nat} (hn:n<=1000000):ai (ph (oG z n k l)) Tryz.prog ⟨99,[.fact 0,.fact 1],oT,false⟩:=by
 skip
 exact bg AG oT AF Tryz.func99 (by kernel_rfl)
  (lB (a9 (F:=(Nf z k)) Tryz.underlying28 ad rfl)
   (lB (a9 (F:=(Nf z l)) Tryz.underlying28 ad rfl)
   (lB (p9 (op:=.neq) ad ad (cw (decide_eq_false (fun h=>h rfl)) (by simp)))
   (lB (a9 (F:=(Nf z k)) Tryz.underlying28 ad rfl)
   (bN (counted n (fun j=>ph (oG z n k l ++ AC z k l j)) (fun _=>0) (fun j p hp=>bO (show p<(oG z n k l).length from hp)) ⟨fun _=>rfl,trivial⟩ (fun j hj=>by
   skip
   exact ⟨(td,[.frm 10]),rfl,⟨ad,trivial⟩,(lB (cA ad ad)
   (lB (b6 (i:=j) (F:=(Nf z k)) Tryz.underlying28 (by kernel_rfl) ad ad (by omega) rfl)
   (lB (bK (sz:=2) (F:=Nw (z j) k) (by kernel_rfl) (by kernel_rfl) ad (fun _ _ _ g h=>ak.kp h g) (fun _ _ h=>ak.is h) rfl)
   (lB (b6 (i:=j) (F:=(Nf z l)) Tryz.underlying28 (by kernel_rfl) ad ad (by omega) rfl)
   (lB (bK (sz:=2) (F:=Nw (z j) l) (by kernel_rfl) (by kernel_rfl) ad (fun _ _ _ g h=>ak.kp h g) (fun _ _ h=>ak.is h) rfl)
   (lB (te nN nN rfl rfl)
   (lB (cO ad (by omega) rfl (by omega) (by omega))
   aC)))))))⟩)
   (lB (tlF ad ad)
   aC)
   (fun q hq=>by cases hq)) aC)))))
  (aK [.fact 0 (.one (.s)),.fact 1 (.one (.s))] ⟨Rw.Is 2 (Nf z k) n,Rw.Is 2 (Nf z l) n,trivial⟩) bh
section
variable {Φ:PH}
theorem tf {p q n k l:Nat}{z:Nat->Int} (hp:∀w v,Φ p w v->Rw 2 (Nf z k) n w v) (hq:∀w v,Φ q w v->Rw 2 (Nf z l) n w v) (hn:n<=1000000):ai Φ Tryz.prog ⟨99,[.fact p,.fact q],oT,false⟩:=
 bi (AH (z:=z) (n:=n) (k:=k) (l:=l) hn) ⟨hp,hq,trivial⟩ ⟨⟨rfl,trivial⟩,trivial⟩
end
def AI (X Y:Nat->Int) (D:Int) (nx ny k l m k' l' m':Nat):List WP:=[Rw 2 (Nf X k) nx,Rw 2 (Nf Y l) ny,Nw D m,Rw 2 (Nf X k') nx,Rw 2 (Nf Y l') ny,Nw D m']
def AJ:List Step:=[.base ⟨99,[.fact 0,.fact 3],oT,false⟩,
   .base ⟨99,[.fact 1,.fact 4],oT,false⟩,
   .base ⟨91,[.fact 2,.fact 5],oT,false⟩]
def AK:List Out:=[⟨.agg [.s,.s,.b,.s],[(0,1,0),(1,1,1),(2,2,2)]⟩,⟨.agg [.s,.s,.b,.s],[(0,1,3),(1,1,4),(2,2,5)]⟩]
theorem AL {X Y:Nat->Int}{D:Int}{nx ny k l m k' l' m':Nat} (hx:nx<=1000000) (hy:ny<=1000000):ai (ph (AI X Y D nx ny k l m k' l' m')) Tryz.prog ⟨46,[.parts (.agg [.s,.s,.b,.s]) [(0,1,0),(1,1,1),(2,2,2)],.parts (.agg [.s,.s,.b,.s]) [(0,1,3),(1,1,4),(2,2,5)]],oT,false⟩:=by
 skip
 exact bg AK oT AJ Tryz.func46 (by kernel_rfl)
  (lB (tf (z:=X) (n:=nx) (k:=k) (l:=k') ad ad (by omega))
   (lB (tf (z:=Y) (n:=ny) (k:=l) (l:=l') ad ad (by omega))
   (lB (te nN nN rfl rfl)
   aC)))
  (aK [.parts (.agg [.s,.s,.b,.s]) [(0,1,0),(1,1,1),(2,2,2)],.parts (.agg [.s,.s,.b,.s]) [(0,1,3),(1,1,4),(2,2,5)]] ⟨trivial,trivial,trivial⟩) bh
section
variable {Φ:PH}
theorem AM {X Y:Nat->Int}{D:Int}{nx ny p0 p1 p2 q0 q1 q2 k0 k1 k2 k3 k4 k5:Nat} (hp0:∀w v,Φ p0 w v->Rw 2 (Nf X k0) nx w v) (hp1:∀w v,Φ p1 w v->Rw 2 (Nf Y k1) ny w v) (hp2:∀w v,Φ p2 w v->ak w v D k2) (hq0:∀w v,Φ q0 w v->Rw 2 (Nf X k3) nx w v) (hq1:∀w v,Φ q1 w v->Rw 2 (Nf Y k4) ny w v) (hq2:∀w v,Φ q2 w v->ak w v D k5) (hx:nx<=1000000) (hy:ny<=1000000):ai Φ Tryz.prog ⟨46,[.parts cS [(0,1,p0),(1,1,p1),(2,2,p2)],.parts cS [(0,1,q0),(1,1,q1),(2,2,q2)]],oT,false⟩:=
 bi (AL (X:=X) (Y:=Y) (D:=D) (nx:=nx) (ny:=ny) (k:=k0) (l:=k1) (m:=k2) (k':=k3) (l':=k4) (m':=k5) hx hy) ⟨⟨rfl,⟨rfl,rfl,hp0⟩,⟨rfl,rfl,hp1⟩,⟨rfl,rfl,hp2⟩,trivial⟩,⟨rfl,⟨rfl,rfl,hq0⟩,⟨rfl,rfl,hq1⟩,⟨rfl,rfl,hq2⟩,trivial⟩,trivial⟩ ⟨⟨rfl,trivial⟩,trivial⟩
end
section
variable {Φ:PH}
end
def aA {α:Type} (a b:α):Nat->α
 | 0=>a
 | _+1=>b
def b7 (zz:Nat->Nat->Int) (ln:Nat->Nat) (d:Int) (i:Nat):Int:=if i<(aL zz ln 2).length then an (aL zz ln 2) i else d
section
variable {zz:Nat->Nat->Int}{ln:Nat->Nat}{x y:Nat->Int}{nx ny i:Nat}{d:Int}
theorem oH (h:i<(aL zz ln 2).length):an (aL zz ln 2) i=b7 zz ln d i:=(if_pos h).symm
theorem oJ:d=b7 zz ln d (aL zz ln 2).length:=(if_neg (Nat.lt_irrefl _)).symm
theorem tg:((ba (b7 zz ln d) ((aL zz ln 2).length+1):Nat):Int)∣d:=by
 have:=jY (z:=b7 zz ln d) (n:=(aL zz ln 2).length+1) (aL zz ln 2).length (by omega)
 rw [<- oJ] at this
 exact this
theorem th (h:d≠0):((ba (b7 zz ln d) ((aL zz ln 2).length+1):Nat):Int)≠0:=fun e=>by
 have:=tg (zz:=zz) (ln:=ln) (d:=d)
 rw [e] at this
 exact h (Int.zero_dvd.1 this)
theorem oM:aL (aA x y) (aA nx ny) 2=mk nx x ++ mk ny y:=rfl
theorem ie:(aL (aA x y) (aA nx ny) 2).length=nx+ny:=by rw [oM,List.length_append,eM,eM]
theorem AS (x y:Nat->Int):∀{j:Nat},j<=2->(aL (aA x y) (aA nx ny) j).length<=nx+ny
 | 0,_=>Nat.zero_le _
 | 1,_=>by rw [mc,show (aL (aA x y) (aA nx ny) 0).length=0 from rfl,Nat.zero_add];exact Nat.le_add_right nx ny
 | 2,_=>Nat.le_of_eq ie
theorem ti (h:i<nx):b7 (aA x y) (aA nx ny) d i=x i:=by
 rw [<- oH (by rw [ie];omega),oM,me,eM,if_pos h,eu,if_pos h]
theorem tj (h:i<ny):b7 (aA x y) (aA nx ny) d (nx+i)=y i:=by
 rw [<- oH (by rw [ie];omega),oM,me,eM,if_neg (by omega),Nat.add_sub_cancel_left,eu,if_pos h]
theorem AT (h:i<nx):((ba (b7 (aA x y) (aA nx ny) d) ((aL (aA x y) (aA nx ny) 2).length+1):Nat):Int)∣x i:=by
 have:=jY (z:=b7 (aA x y) (aA nx ny) d) (n:=(aL (aA x y) (aA nx ny) 2).length+1) i (by rw [ie];omega)
 rwa [ti h] at this
theorem AU (h:i<ny):((ba (b7 (aA x y) (aA nx ny) d) ((aL (aA x y) (aA nx ny) 2).length+1):Nat):Int)∣y i:=by
 have:=jY (z:=b7 (aA x y) (aA nx ny) d) (n:=(aL (aA x y) (aA nx ny) 2).length+1) (nx+i) (by rw [ie];omega)
 rwa [tj h] at this
end
section
variable {Φ:PH}{p q x n m k j:Nat}{z y:Nat->Int}{zz:Nat->Nat->Int}{ln:Nat->Nat}
theorem AV {J:List Nat} (h0:∀w v,Φ p w v->Rw 2 (If z k) n w v) (h1:∀w v,Φ q w v->Rw 2 (If y k) m w v) (hx:Φ x=Rw 1 (fV (aA z y) (aA n m) k) 2):ai Φ Tryz.prog ⟨0,[.any,.fact p,.fact q],[oS x],.fresh J (gv 90 2)⟩:=
 jZ (ps:=[p,q]) (sz:=1) (zc:=.one .nl) Tryz.underlying90 (by kernel_rfl) (by omega) (by kernel_rfl) (by omega) (by omega) rfl (fun i r h w v hv=>by
  match i,h with
  | 0,h=>
   obtain rfl:=Option.some.inj h
   have:=tk (h0 w v hv)
   rw [this]
   exact ⟨rfl,v,rfl,h0 w v hv⟩
  | 1,h=>
   obtain rfl:=Option.some.inj h
   have:=tk (h1 w v hv)
   rw [this]
   exact ⟨rfl,v,rfl,h1 w v hv⟩
  | i+2,h=>simp at h) hx
theorem AW (hp:∀w v,Φ p w v->Rw 1 (fV zz ln k) n w v) (hx:Φ x=am 2 51 (If (an (aL zz ln n)) k) (aL zz ln n).length) (hn:n<=1000) (hs:∀j,j<=n->(aL zz ln j).length<=1000000):ai Φ Tryz.prog ⟨127,[.fact p],[oS x],.et [] j⟩:=
 jW (AB hn hs) ⟨hp,trivial⟩ ⟨⟨rfl,⟨rfl,rfl,fun _ _ h=>hx▸h⟩,trivial⟩,trivial⟩
theorem ak.pos {w:World}{v:Value}{d:Int}{k:Nat} (h:ak w v d k) (hd:0<d):(aR.agg [.lit (.cb false),.s]).is v:=by
 obtain ⟨s,n,c,rfl⟩:=AX h
 exact ⟨[_,_],rfl,by rw [decide_eq_false (by omega)];rfl,⟨_,_,_,rfl⟩,trivial⟩
end
def AY (z:Nat->Int) (n k:Nat) (L:List Int):List WP:=[Rw 2 (If z k) n,Rw 2 (Nf (an L) k) L.length,Ni (((L.length:Nat):Int)-1),Ni ((L.length-1:Nat):Int)]
def A0:List Step:=[.base ⟨89,[.fact 0],[oS 1],false⟩,
   .base ⟨59,[.fact 1],[oN 2],false⟩,
   bQ [.lit (.ci .i64 0),.fact 2] [oN 3] (gw .max)]
def A2:List Out:=[oS 0]
theorem A3 {z:Nat->Int}{n k:Nat}{L:List Int} (hn:n<=1000000) (hk:k<=500000) (hL:aP (mk n z)=L):ai (ph (AY z n k L)) Tryz.prog ⟨80,[.fact 0],[oN 3],false⟩:=by
 have hLn:L.length<=n:=by rw [<- hL,fe];exact aV _ _
 exact bg A2 [oN 3] A0 Tryz.func80 (by kernel_rfl)
  (lB (A5 (z:=z) (n:=n) (Rw.To 2 (If z k) n (fun _ _ _ _ h=>h)) rfl (by omega) (by omega) hL)
   (lB (oO (n:=L.length) (fun _ _ h=>Rw.tm (sz:=2) (F:=(Nf (an L) k)) (n:=L.length) h) rfl (by omega) (rfl))
   (lB (A6 ad (by split <;> omega) rfl)
   aC)))
  (aK [.fact 0 (.one (.s))] ⟨Rw.Is 2 (If z k) n,trivial⟩) bh
section
variable {Φ:PH}{p x n k:Nat}{z:Nat->Int}
theorem oU (hp:∀w v,Φ p w v->Rw 2 (If z k) n w v) (hx:Φ x=Ni ((tl z n-1:Nat):Int)) (hn:n<=1000000) (hk:k<=500000):ai Φ Tryz.prog ⟨80,[.fact p],[oN x],false⟩:=
 bi (A3 (z:=z) hn hk rfl) ⟨hp,trivial⟩ ⟨⟨rfl,⟨rfl,rfl,fun _ _ h=>by rw [hx,<- fe n z];exact h⟩,trivial⟩,trivial⟩
end
def A7 (z:Nat->Int) (n k:Nat) (u d:Int) (ku kd kk:Nat) (M L:List Int) (K3 kp:Nat):List WP:=[Rw 2 (If z k) n,Nw u ku,Nw d kd,Nz kk,Rw 2 (Nf (an M) K3) M.length,Nz (tl z n-1),Nz (kk-(tl z n-1)),Nw (d ^ (kk-(tl z n-1))) kp,Rw 2 (Nf (an L) (K3+kp)) L.length]
def A8:List Step:=[.base ⟨130,[.fact 0,.fact 1,.fact 2],[oS 4,oL (.ci .i64 0)],true⟩,
   .base ⟨80,[.fact 0],[oN 5],false⟩,
   bQ [.fact 3,.fact 5] [oN 6] (au .sub),
   .base ⟨83,[.fact 2,.fact 6],[oI 7],false⟩,
   .base ⟨131,[.fact 4,.fact 7],[oS 8],false⟩]
def A9:List Out:=[oS 0,⟨.agg [.b,.s,.b,.s],[(0,2,1),(2,2,2)]⟩,oN 3]
theorem Bb {z:Nat->Int}{n k:Nat}{u d:Int}{ku kd kk:Nat}{M L:List Int}{K1 K2 K3 kp:Nat} (hn:n<=1000000) (hk:k<=400000) (hku:ku<=1000) (hkd:kd<=1000) (hd:d≠0) (hkp:kp<=100000) (hK:k+kp<=K1) (hK1:K1<=K2) (hK2:K2<=200000) (hK3:K2+kp<=K3∧K3<=300000) (hB:∀j,j<=tl z n->Bd (d ^ j).natAbs kp) (hM:∀j a,j<=tl z n->a<tl z n->Bd (mvS z n u d j a).natAbs K2) (hL:mvL z n u d=M) (hkk:tl z n-1<=kk) (hk2:kk<=256) (hBp:Bd (d ^ (kk-(tl z n-1))).natAbs kp) (hS:aP (mk M.length (fun i=>an M i*d ^ (kk-(tl z n-1))))=L):ai (ph (A7 z n k u d ku kd kk M L K3 kp)) Tryz.prog ⟨82,[.fact 0,.parts (.agg [.b,.s,.b,.s]) [(0,2,1),(2,2,2)],.fact 3],[oS 8],false⟩:=by
 have hMl:M.length=tl z n:=by rw [<- hL];exact j7 _ _ _ _
 have hle:=aV z n
 exact bg A9 [oS 8] A8 Tryz.func82 (by kernel_rfl)
  (lB (Bc (z:=z) (n:=n) (K1:=K1) (K2:=K2) (K3:=K3) (kp:=kp) (Rw.To 2 (If z k) n (fun _ _ _ _ h=>h)) nI nI rfl (by omega) (by omega) (by omega) (by omega) (by omega) (by omega) (by omega) (by omega) (by omega) (by omega) hB hM hL)
   (lB (oU (z:=z) (n:=n) (Rw.To 2 (If z k) n (fun _ _ _ _ h=>h)) rfl (by omega) (by omega))
   (lB (Be ad ad (by omega) rfl (by omega) (by omega))
   (lB (tq (kk-(tl z n-1)) nI ad rfl (by omega) (by omega) rfl hBp)
   (lB (Bf (z:=(an M)) (n:=M.length) (Rw.To 2 (Nf (an M) K3) M.length (fun _ _ _ _ h=>ak.i h)) nI rfl (by omega) (by omega) hS)
   aC)))))
  (aK [.fact 0 (.one (.s)),.parts (.agg [.b,.s,.b,.s]) [(0,2,1),(2,2,2)],.fact 3 (.one (.i))] ⟨Rw.Is 2 (If z k) n,trivial,fun _ _ h=>h▸dl _,trivial⟩) (fun _ _ _ h=>h)
section
variable {Φ:PH}{p q r s x n k ku kd kk K1 K2 K3 kp:Nat}{z:Nat->Int}{u d:Int}{M L:List Int}
theorem tr (hp:∀w v,Φ p w v->Rw 2 (If z k) n w v) (hq:∀w v,Φ q w v->ak w v u ku) (hr:∀w v,Φ r w v->ak w v d kd) (hs:∀w v,Φ s w v->v = .int .i64 (kk:Int)) (hx:Φ x=Rw 2 (Nf (an L) (K3+kp)) L.length)
  (hn:n<=1000000) (hk:k<=400000) (hku:ku<=1000) (hkd:kd<=1000) (hd:d≠0) (hkp:kp<=100000) (hK:k+kp<=K1) (hK1:K1<=K2) (hK2:K2<=200000) (hK3:K2+kp<=K3∧K3<=300000) (hB:∀j,j<=tl z n->Bd (d ^ j).natAbs kp) (hM:∀j a,j<=tl z n->a<tl z n->Bd (mvS z n u d j a).natAbs K2) (hL:mvL z n u d=M) (hkk:tl z n-1<=kk) (hk2:kk<=256) (hBp:Bd (d ^ (kk-(tl z n-1))).natAbs kp) (hS:aP (mk M.length (fun i=>an M i*d ^ (kk-(tl z n-1))))=L) :
  ai Φ Tryz.prog ⟨82,[.fact p,.parts qS [(0,2,q),(2,2,r)],.fact s],[oS x],false⟩:=
 bi (Bb (z:=z) (u:=u) (d:=d) (ku:=ku) (kd:=kd) hn hk hku hkd hd hkp hK hK1 hK2 hK3 hB hM hL hkk hk2 hBp hS) ⟨hp,⟨rfl,⟨rfl,rfl,hq⟩,⟨rfl,rfl,hr⟩,trivial⟩,hs,trivial⟩ ⟨⟨rfl,⟨rfl,rfl,fun _ _ h=>hx▸h⟩,trivial⟩,trivial⟩
end
def oV (z:Nat->Int) (n k l:Nat) (c:Int) (Z:List Int):List WP:=[Rw 2 (If z k) n,Iw c l,am 2 51 (Nf (an Z) k) Z.length,eC Z.length,Ni ((Z.length:Nat):Int),am 2 51 (Nf (cJ (an Z) c Z.length) k) Z.length]
def Bg (k:Nat) (c:Int) (Z:List Int) (j:Nat):List WP:=[Nz j,am 2 51 (Nf (cJ (an Z) c j) k) Z.length,fun _ _=>True,At 2,Ptr 2 (Nw ((cJ (an Z) c j) j) k),Nw ((cJ (an Z) c j) j) k,Nw (((cJ (an Z) c j) j) / c) k,At 2,Ptr 2 (Nw ((cJ (an Z) c j) j) k),fun w v=>am 2 51 (fun ι w v=>ak w v ((cJ (an Z) c (j+1)) ι) k) Z.length w v,Nz (j+1)]
def tt:bj:=⟨[0,1,3,4,7,8,9,10],[(.slot 11,.i),(.slot 5,.s)],[(.one 0,6),(.one 1,.bZ [1] 7),(.one 1,.lo 1)],[.closed (.one (.ci .i64 0)),.frm 2,.frm 0],6,[(7,5)]⟩
def tu:List Step:=[bQ [.fact 6,.fact 4] oT (au .lss),
   .base ⟨0,[.fact 7,.fact 6],[oP 10],.joint [1] 9 (aO 28)⟩,
   .base ⟨0,[.fact 10],[oI 11],.ig [1] (aS 51)⟩,
   .base ⟨128,[.fact 11,.fact 1],[oI 12,oL (.ci .i64 0)],true⟩,
   .base ⟨0,[.fact 7,.fact 6],[oP 14],.joint [1] 13 (aO 28)⟩,
   .base ⟨0,[.fact 7,.fact 6,.any,.fact 12],[oS 15],.put [] 1 0 13 (eN 51 (.tmp 15) (.tmp 16))⟩,
   bQ [.fact 6,.lit (.ci .i64 1)] [oN 16] (au .add)]
def Bh:List Step:=[bQ [.fact 6,.fact 4] oF (au .lss)]
def Bi:List Step:=[.base ⟨89,[.fact 0],[oS 2],.et [] 1⟩,
   .freed (.one (.s 4 0)) 2 3,
   bQ [.fact 3] [oN 4] (aI 28),
   .loop tt [(tu,[.frm 16,.frm 15,.frm 0])] Bh]
def Bj:List Out:=[oS 0,oI 1]
theorem Bk {z:Nat->Int}{n k l:Nat}{c:Int}{Z:List Int} (hn:n<=1000000) (hk:k<=400000) (hl:l<=400000) (hZ:aP (mk n z)=Z) (hc:0<Z.length->c≠0) (hd:∀i,i<Z.length->c∣an Z i):ai (ph (oV z n k l c Z)) Tryz.prog ⟨129,[.fact 0,.fact 1],[oS 5],false⟩:=by
 have hZl:Z.length<=n:=by rw [<- hZ,fe];exact aV _ _
 exact bg Bj [oS 5] Bi Tryz.func129 (by kernel_rfl)
  (lB (Bl (Rw.To 2 (If z k) n (fun _ _ _ _ h=>h)) rfl (by omega) (by omega) hZ)
   (j8 (j9 (e:=51) (sz:=2) (n:=Z.length) (F:=(Nf (an Z) k)) ad rfl)
   (lB (ke (n:=Z.length) Tryz.underlying28 ad rfl)
   (bN (counted Z.length (fun j=>ph (oV z n k l c Z ++ Bg k c Z j)) (fun _=>0) (fun j p hp=>bO (show p<(oV z n k l c Z).length from hp)) ⟨fun _=>rfl,fun _ _ h=>am.to (sz:=2) (e:=51) (n:=Z.length) (F:=fun ι w v=>ak w v (an Z ι) k) (G:=fun ι w v=>ak w v (cJ (an Z) c 0 ι) k) h fun a w v ha h=>by rw [Bm];exact h,bp,trivial⟩ (fun j hj=>by
   skip
   exact ⟨(tu,[.frm 16,.frm 15,.frm 0]),rfl,⟨ad,ad,bp,trivial⟩,(lB (cA ad ad)
   (lB (dY (i:=j) (sz:=2) (n:=Z.length) (F:=(Nf (cJ (an Z) c j) k)) Tryz.underlying28 (by kernel_rfl) (fun _ _ h=>am.arr h) ad (by omega) rfl rfl)
   (lB (oW (sz:=2) (F:=Nw ((cJ (an Z) c j) j) k) (by kernel_rfl) (by kernel_rfl) ad (fun _ _ _ g h=>ak.kp h g) (fun _ _ h=>ak.is h) rfl)
   (lB (je nI iI rfl (by omega) (hc (by omega)) (by rw [tv];exact hd j hj) rfl)
   (lB (dY (i:=j) (sz:=2) (n:=Z.length) (F:=(Nf (cJ (an Z) c j) k)) Tryz.underlying28 (by kernel_rfl) (fun _ _ h=>am.arr h) ad (by omega) rfl rfl)
   (lB (fB (i:=j) (n:=Z.length) (F:=(fun ι w v=>ak w v ((cJ (an Z) c j) ι) k)) (F':=(fun ι w v=>ak w v ((cJ (an Z) c (j+1)) ι) k)) (G:=Nw (((cJ (an Z) c j) j) / c) k) (.tmp 15) (.tmp 16) (by kernel_rfl) ad ad (by omega) ad rfl (fun _ _ h=>ak.cells h) (fun _ _ _ _ g h=>ak.kp h g) (fun _ _ _ g h=>ak.kp h g) (fun a w v ha h=>by rw [Bn ha];exact h) (fun w v h=>h.eq Bo) rfl)
   (lB (cO ad (by omega) rfl (by omega) (by omega))
   aC)))))))⟩)
   (lB (tlF ad ad)
   aC)
   (fun q hq w v h=>by
    simp only [tt,List.mem_cons,List.not_mem_nil,or_false] at hq
    rcases hq with rfl
    ·exact (fun h=>h) h)) aC))))
  (aK [.fact 0 (.one (.s)),.fact 1 (.agg [.b,.s])] ⟨Rw.Is 2 (If z k) n,fun _ _ h=>aj.is h,trivial⟩) bh
section
variable {Φ:PH}{p q x n k l:Nat}{z:Nat->Int}{c:Int}{L:List Int}
theorem tw (hp:∀w v,Φ p w v->Rw 2 (If z k) n w v) (hq:∀w v,Φ q w v->aj w v c l) (hx:Φ x=Rw 2 (Nf (an L) k) L.length) (hn:n<=1000000) (hk:k<=400000) (hl:l<=400000) (hc:0<tl z n->c≠0) (hd:∀i,i<tl z n->c∣z i) (hL:dvL z n c=L):ai Φ Tryz.prog ⟨129,[.fact p,.fact q],[oS x],false⟩:=by
 have hT:(aP (mk n z)).length=tl z n:=fe n z
 have hZ:∀i,i<tl z n->an (aP (mk n z)) i=z i:=fun i hi=>by
  have:=aV z n
  rw [kf,eu,if_pos (by omega)]
 refine bi (Bk (c:=c) (l:=l) (Z:=aP (mk n z)) hn hk hl rfl (by rw [hT];exact hc) (fun i hi=>by rw [hT] at hi;rw [hZ i hi];exact hd i hi)) ⟨hp,hq,trivial⟩ ⟨⟨rfl,⟨rfl,rfl,fun _ _ h=>?_⟩,trivial⟩,trivial⟩
 rw [hx,<- hL,dvL,eM,<- hT]
 exact Rw.to (sz:=2) (n:=(aP (mk n z)).length) (F:=Nf (cJ (an (aP (mk n z))) c (aP (mk n z)).length) k) (am.rw (e:=51) h) fun i w v hi h=>h.eq (by
  rw [cJ,if_pos hi,eu,if_pos hi,hZ i (hT▸hi)])
end
def Bp (x y:Nat->Int) (nx ny k:Nat) (d:Int) (X Y:List Int):List WP:=[Rw 2 (If x k) nx,Rw 2 (If y k) ny,Nw d k,Rw 1 (fV (aA x y) (aA nx ny) k) 2,am 2 51 (If (an (aL (aA x y) (aA nx ny) 2)) k) ((aL (aA x y) (aA nx ny) 2).length),am 2 51 (If (b7 (aA x y) (aA nx ny) d) k) ((aL (aA x y) (aA nx ny) 2).length+1),Nw (ba (b7 (aA x y) (aA nx ny) d) ((aL (aA x y) (aA nx ny) 2).length+1):Int) k,Nw (d / (ba (b7 (aA x y) (aA nx ny) d) ((aL (aA x y) (aA nx ny) 2).length+1):Int)) k,Rw 2 (Nf (an X) k) X.length,Rw 2 (Nf (an Y) k) Y.length]
def Br:List Step:=[.base ⟨0,[.any,.fact 0,.fact 1],[oS 3],.fresh [] (gv 90 2)⟩,
   .base ⟨127,[.fact 3],[oS 4],.et [] 1⟩,
   .base ⟨0,[.fact 4,.row 2 [2]],[oS 5],.loose [] 1 0 (cU 28 28)⟩,
   .base ⟨126,[.fact 5],[oI 6],.c9 [1] false⟩,
   .base ⟨128,[.fact 2,.fact 6],[oI 7,oL (.ci .i64 0)],.c9 [1] true⟩,
   .base ⟨129,[.fact 0,.fact 6],[oS 8],.c9 [1] false⟩,
   .base ⟨129,[.fact 1,.fact 6],[oS 9],.c9 [1] false⟩]
def Bs:List Out:=[oS 0,oS 1,⟨.agg [.lit (.cb false),.s],[(0,0,2)]⟩]
theorem Bu {x y:Nat->Int}{nx ny k:Nat}{d:Int}{X Y:List Int} (hx:nx<=400000) (hy:ny<=400000) (hk:k<=400000) (hd:d≠0) (hX:dvL x nx ((ba (b7 (aA x y) (aA nx ny) d) ((aL (aA x y) (aA nx ny) 2).length+1):Nat):Int)=X) (hY:dvL y ny ((ba (b7 (aA x y) (aA nx ny) d) ((aL (aA x y) (aA nx ny) 2).length+1):Nat):Int)=Y):ai (ph (Bp x y nx ny k d X Y)) Tryz.prog ⟨81,[.fact 0,.fact 1,.parts (.agg [.lit (.cb false),.s]) [(0,0,2)]],[⟨.agg [.s,.s,.b,.s],[(0,1,8),(1,1,9),(2,2,7)]⟩],false⟩:=by
 have hs:∀j,j<=2->(aL (aA x y) (aA nx ny) j).length<=1000000:=fun j hj=>Nat.le_trans (AS x y hj) (by omega)
 have hl:=hs 2 (by omega)
 have hg0:((ba (b7 (aA x y) (aA nx ny) d) ((aL (aA x y) (aA nx ny) 2).length+1):Nat):Int)≠0:=th hd
 have hgd:((ba (b7 (aA x y) (aA nx ny) d) ((aL (aA x y) (aA nx ny) 2).length+1):Nat):Int)∣d:=tg
 have hgx:∀i,i<tl x nx->((ba (b7 (aA x y) (aA nx ny) d) ((aL (aA x y) (aA nx ny) 2).length+1):Nat):Int)∣x i:=fun i hi=>AT (Nat.lt_of_lt_of_le hi (aV _ _))
 have hgy:∀i,i<tl y ny->((ba (b7 (aA x y) (aA nx ny) d) ((aL (aA x y) (aA nx ny) 2).length+1):Nat):Int)∣y i:=fun i hi=>AU (Nat.lt_of_lt_of_le hi (aV _ _))
 exact bg Bs [⟨.agg [.s,.s,.b,.s],[(0,1,8),(1,1,9),(2,2,7)]⟩] Br Tryz.func81 (by kernel_rfl)
  (lB (AV (z:=x) (y:=y) (n:=nx) (m:=ny) (Rw.To 2 (If x k) nx (fun _ _ _ _ h=>h)) (Rw.To 2 (If y k) ny (fun _ _ _ _ h=>h)) rfl)
   (lB (AW (n:=2) ad rfl (by omega) hs)
   (lB (mh (n:=(aL (aA x y) (aA nx ny) 2).length) (F:=(fun ι w v=>aj w v ((b7 (aA x y) (aA nx ny) d) ι) k)) (fun _ _ _ _ g h=>aj.kp h g) (fun _ _ h=>am.to (sz:=2) (e:=51) (n:=(aL (aA x y) (aA nx ny) 2).length) (F:=(fun ι w v=>aj w v ((an (aL (aA x y) (aA nx ny) 2)) ι) k)) (G:=(fun ι w v=>aj w v ((b7 (aA x y) (aA nx ny) d) ι) k)) h fun a w v ha h=>by rw [<- oH ha];exact h) (fun _ _ h=>by rw [<- oJ];exact ak.i h) (fun _ _ h=>ak.dm h) (by omega) rfl)
   (lB (dZ [1] (Bv ad rfl (by omega)))
   (lB (dZ [1] (je nI nI rfl (by omega) (hg0) (hgd) rfl))
   (lB (dZ [1] (tw (z:=x) (n:=nx) (Rw.To 2 (If x k) nx (fun _ _ _ _ h=>h)) nI rfl (by omega) (by omega) (by omega) (fun _=>hg0) (hgx) (hX)))
   (lB (dZ [1] (tw (z:=y) (n:=ny) (Rw.To 2 (If y k) ny (fun _ _ _ _ h=>h)) nI rfl (by omega) (by omega) (by omega) (fun _=>hg0) (hgy) (hY)))
   aC)))))))
  (aK [.fact 0 (.one (.s)),.fact 1 (.one (.s)),.parts (.agg [.lit (.cb false),.s]) [(0,0,2)]] ⟨Rw.Is 2 (If x k) nx,Rw.Is 2 (If y k) ny,trivial,trivial⟩) bh
section
variable {Φ:PH}{p q r p0 p1 p2 nx ny k:Nat}{x y:Nat->Int}{d D:Int}{X Y:List Int}
theorem Bw (hp:∀w v,Φ p w v->Rw 2 (If x k) nx w v) (hq:∀w v,Φ q w v->Rw 2 (If y k) ny w v) (hr:∀w v,Φ r w v->ak w v d k) (h0:Φ p0=Rw 2 (Nf (an X) k) X.length) (h1:Φ p1=Rw 2 (Nf (an Y) k) Y.length) (h2:Φ p2=Nw D k)
  (hx:nx<=400000) (hy:ny<=400000) (hk:k<=400000) (hd:0<d) (hX:dvL x nx ((ba (b7 (aA x y) (aA nx ny) d) ((aL (aA x y) (aA nx ny) 2).length+1):Nat):Int)=X) (hY:dvL y ny ((ba (b7 (aA x y) (aA nx ny) d) ((aL (aA x y) (aA nx ny) 2).length+1):Nat):Int)=Y) (hD:d / ((ba (b7 (aA x y) (aA nx ny) d) ((aL (aA x y) (aA nx ny) 2).length+1):Nat):Int)=D) :
  ai Φ Tryz.prog ⟨81,[.fact p,.fact q,.fact r],[⟨.agg [.s,.s,.b,.s],[(0,1,p0),(1,1,p1),(2,2,p2)]⟩],false⟩:=
 bi (Bu (x:=x) (y:=y) (nx:=nx) (ny:=ny) (k:=k) (d:=d) hx hy hk (by omega) hX hY) ⟨hp,hq,⟨fun _ _ h=>ak.pos (hr _ _ h) hd,hr,trivial⟩,trivial⟩ ⟨⟨rfl,⟨rfl,rfl,fun _ _ h=>h0▸h⟩,⟨rfl,rfl,fun _ _ h=>h1▸h⟩,⟨rfl,rfl,fun _ _ h=>h2▸hD▸h⟩,trivial⟩,trivial⟩
end
def BD (x y:Nat->Int) (nx ny k kt:Nat) (t:Rat) (D:Int) (Lx Ly X Y:List Int) (K3 kp km:Nat):List WP:=[Rw 2 (If x k) nx,Rw 2 (If y k) ny,fun w v=>bS w v t kt,fun w v=>bk w v (-t) (kt+2),Nw ((-t).num) (kt+2),Nw ((-t).den:Int) (kt+2),Nz (tl x nx-1),Nz (tl y ny-1),Nz (max (tl x nx-1) (tl y ny-1)),Rw 2 (Nf (an Lx) (K3+kp)) Lx.length,Rw 2 (Nf (an Ly) (K3+kp)) Ly.length,Nw ((((-t).den:Nat):Int) ^ (max (tl x nx-1) (tl y ny-1))) kp,Rw 2 (Nf (an X) km) X.length,Rw 2 (Nf (an Y) km) Y.length,Nw D km]
def BE:List Step:=[.base ⟨79,[.fact 2],[⟨.agg [.b,.s,.b,.s],[(0,0,3),(0,2,4),(2,2,5)]⟩],false⟩,
   .base ⟨80,[.fact 0],[oN 6],false⟩,
   .base ⟨80,[.fact 1],[oN 7],false⟩,
   bQ [.fact 6,.fact 7] [oN 8] (gw .max),
   .base ⟨82,[.fact 0,.parts qS [(0,2,4),(2,2,5)],.fact 8],[oS 9],false⟩,
   .base ⟨82,[.fact 1,.parts qS [(0,2,4),(2,2,5)],.fact 8],[oS 10],false⟩,
   .base ⟨83,[.fact 5,.fact 8],[oI 11],false⟩,
   .base ⟨81,[.fact 9,.fact 10,.fact 11],[⟨.agg [.s,.s,.b,.s],[(0,1,12),(1,1,13),(2,2,14)]⟩],false⟩]
def BF:List Out:=[oS 0,oS 1,oR 2]
theorem BH {x y:Nat->Int}{nx ny k kt:Nat}{t:Rat}{D:Int}{Mx My Lx Ly X Y:List Int}{K1 K2 K3 kp km:Nat} (hnx:nx<=200) (hny:ny<=200) (hk:k<=400000) (hkt:kt<=900) (hkp:kp<=100000) (hK:k+kp<=K1) (hK1:K1<=K2) (hK2:K2<=200000) (hK3:K2+kp<=K3∧K3<=300000) (hkm:K3+kp<=km∧km<=400000) (hBx:∀j,j<=tl x nx->Bd ((((-t).den:Nat):Int) ^ j).natAbs kp) (hMx:∀j a,j<=tl x nx->a<tl x nx->Bd (mvS x nx ((-t).num) (((-t).den:Nat):Int) j a).natAbs K2) (hLx:mvL x nx ((-t).num) (((-t).den:Nat):Int)=Mx) (BI:Bd ((((-t).den:Nat):Int) ^ ((max (tl x nx-1) (tl y ny-1))-(tl x nx-1))).natAbs kp) (BJ:aP (mk Mx.length (fun i=>an Mx i*(((-t).den:Nat):Int) ^ ((max (tl x nx-1) (tl y ny-1))-(tl x nx-1))))=Lx) (hBy:∀j,j<=tl y ny->Bd ((((-t).den:Nat):Int) ^ j).natAbs kp) (hMy:∀j a,j<=tl y ny->a<tl y ny->Bd (mvS y ny ((-t).num) (((-t).den:Nat):Int) j a).natAbs K2) (hLy:mvL y ny ((-t).num) (((-t).den:Nat):Int)=My) (BK:Bd ((((-t).den:Nat):Int) ^ ((max (tl x nx-1) (tl y ny-1))-(tl y ny-1))).natAbs kp) (hSy:aP (mk My.length (fun i=>an My i*(((-t).den:Nat):Int) ^ ((max (tl x nx-1) (tl y ny-1))-(tl y ny-1))))=Ly) (hBD:Bd ((((-t).den:Nat):Int) ^ (max (tl x nx-1) (tl y ny-1))).natAbs kp) (PW:Lx.length<=200) (PX:Ly.length<=200) (hX:dvL (an Lx) Lx.length ((ba (b7 (aA (an Lx) (an Ly)) (aA Lx.length Ly.length) ((((-t).den:Nat):Int) ^ (max (tl x nx-1) (tl y ny-1)))) ((aL (aA (an Lx) (an Ly)) (aA Lx.length Ly.length) 2).length+1):Nat):Int)=X) (hY:dvL (an Ly) Ly.length ((ba (b7 (aA (an Lx) (an Ly)) (aA Lx.length Ly.length) ((((-t).den:Nat):Int) ^ (max (tl x nx-1) (tl y ny-1)))) ((aL (aA (an Lx) (an Ly)) (aA Lx.length Ly.length) 2).length+1):Nat):Int)=Y) (hD:((((-t).den:Nat):Int) ^ (max (tl x nx-1) (tl y ny-1))) / ((ba (b7 (aA (an Lx) (an Ly)) (aA Lx.length Ly.length) ((((-t).den:Nat):Int) ^ (max (tl x nx-1) (tl y ny-1)))) ((aL (aA (an Lx) (an Ly)) (aA Lx.length Ly.length) 2).length+1):Nat):Int)=D):ai (ph (BD x y nx ny k kt t D Lx Ly X Y K3 kp km)) Tryz.prog ⟨30,[.fact 0,.fact 1,.fact 2],[⟨.agg [.s,.s,.b,.s],[(0,1,12),(1,1,13),(2,2,14)]⟩],false⟩:=by
 have hd0:(((-t).den:Nat):Int)≠0:=oX _
 have hDp:0<(((-t).den:Nat):Int) ^ (max (tl x nx-1) (tl y ny-1)):=Int.pow_pos (by have:=(-t).den_pos;omega)
 have hlx:=aV x nx
 have hly:=aV y ny
 exact bg BF [⟨.agg [.s,.s,.b,.s],[(0,1,12),(1,1,13),(2,2,14)]⟩] BE Tryz.func30 (by kernel_rfl)
  (lB (BL qQ rfl rfl rfl (by omega) rfl)
   (lB (oU (z:=x) (n:=nx) (Rw.To 2 (If x k) nx (fun _ _ _ _ h=>h)) rfl (by omega) (by omega))
   (lB (oU (z:=y) (n:=ny) (Rw.To 2 (If y k) ny (fun _ _ _ _ h=>h)) rfl (by omega) (by omega))
   (lB (oY ad ad (by split <;> omega) rfl)
   (lB (tr (z:=x) (n:=nx) (kk:=(max (tl x nx-1) (tl y ny-1))) (M:=Mx) (L:=Lx) (K1:=K1) (K2:=K2) (K3:=K3) (kp:=kp) (Rw.To 2 (If x k) nx (fun _ _ _ _ h=>h)) nN nN ad rfl (by omega) (by omega) (by omega) (by omega) hd0 (by omega) (by omega) (by omega) (by omega) (by omega) hBx hMx hLx (by omega) (by omega) BI BJ)
   (lB (tr (z:=y) (n:=ny) (kk:=(max (tl x nx-1) (tl y ny-1))) (M:=My) (L:=Ly) (K1:=K1) (K2:=K2) (K3:=K3) (kp:=kp) (Rw.To 2 (If y k) ny (fun _ _ _ _ h=>h)) nN nN ad rfl (by omega) (by omega) (by omega) (by omega) hd0 (by omega) (by omega) (by omega) (by omega) (by omega) hBy hMy hLy (by omega) (by omega) BK hSy)
   (lB (tq (max (tl x nx-1) (tl y ny-1)) nI ad rfl (by omega) (by omega) rfl hBD)
   (lB (Bw (x:=(an Lx)) (y:=(an Ly)) (nx:=Lx.length) (ny:=Ly.length) (d:=((((-t).den:Nat):Int) ^ (max (tl x nx-1) (tl y ny-1)))) (X:=X) (Y:=Y) (D:=D) (k:=km) (fun w v h=>Rw.to (sz:=2) (n:=Lx.length) (F:=If (an Lx) (K3+kp)) ((Rw.To 2 (Nf (an Lx) (K3+kp)) Lx.length (fun _ _ _ _ h=>ak.i h)) w v h) fun i w v _ h=>aj.more h (by omega)) (fun w v h=>Rw.to (sz:=2) (n:=Ly.length) (F:=If (an Ly) (K3+kp)) ((Rw.To 2 (Nf (an Ly) (K3+kp)) Ly.length (fun _ _ _ _ h=>ak.i h)) w v h) fun i w v _ h=>aj.more h (by omega)) (fun _ _ h=>ak.more h (by omega)) rfl rfl rfl (by omega) (by omega) (by omega) hDp hX hY hD)
   aC))))))))
  (aK [.fact 0 (.one (.s)),.fact 1 (.one (.s)),.fact 2 (.agg [.b,.s,.b,.s])] ⟨Rw.Is 2 (If x k) nx,Rw.Is 2 (If y k) ny,fun _ _ h=>bS.is h,trivial⟩) bh
end Go.Proofs.YthmcngjhkmpneaaGreat.Sym
