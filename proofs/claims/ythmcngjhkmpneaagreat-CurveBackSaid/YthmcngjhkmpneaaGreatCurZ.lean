/- Values of curves: Small, Of, Still, At, Deg, Make; a moved curve's values. curve.Make; sizes of curves that are moved more than once. -/
import Derived.Test.YthmcngjhkmpneaaGreatCurW
set_option maxRecDepth 100000
namespace Go.Proofs.YthmcngjhkmpneaaGreat.Sym
open Go.RowKit
def dL (n d:Int):Rat:=aD ((o3 n 61:Int)-30) (1+(o3 d 6:Int))
theorem tU (n d:Int):Bd (dL n d).num.natAbs 1∧Bd (dL n d).den 1:=by
 have h1:=rg n (n:=61) (by omega)
 have h2:=rg d (n:=6) (by omega)
 refine CS (by omega) ?_ ?_
 ·show _<4294967296 ^ 1
  omega
 ·show _<4294967296 ^ 1
  omega
theorem Qg {Φ:PH}{p q x x1 x2:Nat}{z y:Int}{t:Rat} (hp:∀w v,Φ p w v->v = .int .i64 z) (hq:∀w v,Φ q w v->v = .int .i64 y) (hx:Φ x=Dw t 6) (hx1:Φ x1=fun w v=>ae w v t.num 6) (hx2:Φ x2=fun w v=>ae w v (t.den:Int) 6) (z1 : -9223372036854775808<=z) (z2:z<=9223372036854775807) (y1 : -9223372036854775808<=y) (y2:y<=9223372036854775807) (ht:aD z y=t):ai Φ Tryz.prog ⟨38,[.fact p,.fact q],[⟨sS,[(0,0,x),(0,2,x1),(2,2,x2)]⟩],false⟩:=
 dj fun _ w v u h0 h1=>by
  obtain rfl:=hp _ _ (get h0)
  obtain rfl:=hq _ _ (get h1)
  exact (xL z y z1 z2 y1 y2 ht).mono fun _ _ h=>iF hx hx1 hx2 h
theorem tV {L:List Int} (h:o5 L):aP (mk L.length (an L))=L:=by
 have:mk L.length (an L)=L:=by
  apply List.ext_getElem (by rw [eM])
  intro i h1 h2
  simp [mk,an,List.getD_eq_getElem?_getD,List.getElem?_eq_getElem h2]
 rw [this]
 exact Qh h
theorem tJ {z:Nat->Int}{n:Nat}{L:List Int} (hL:aP (mk n z)=L) (t:Rat):ev t L.length (an L)=ev t n z:=by
 rw [fE hL,gx (kB hL),tE,mo]
section
variable {x y:Nat->Int}{n m:Nat}{u d:Int}{Lx Ly:List Int}
theorem Qi {z:Nat->Int}{n kk:Nat} (hd:d≠0) (hk:tl z n-1<=kk) (t:Rat):ev t (tl z n) (rbZ z n u d kk)=((d ^ kk:Int):Rat)*ev (t+u / d) n z:=by
 have h1:=BQ hd t z n u
 rw [j7] at h1
 have h2:d ^ kk=d ^ (tl z n-1)*d ^ (kk-(tl z n-1)):=by rw [<- Int.pow_add];congr 1;omega
 rw [gx (z:=rbZ z n u d kk) (y:=fun i=>d ^ (kk-(tl z n-1))*an (mvL z n u d) i) fun i _=>Int.mul_comm _ _,nj,h1,h2,Rat.intCast_mul]
 push_cast
 grind
theorem AQ (h:ik x y n m u d Lx Ly) (t:Rat):ev t Lx.length (cuX (qB Lx u d) (dB Lx Ly u d))=((dB Lx Ly u d:Int):Rat)*ev (t+u / d) n x∧ev t Ly.length (cuX (qB Ly u d) (dB Lx Ly u d))=((dB Lx Ly u d:Int):Rat)*ev (t+u / d) m y:=by
 have lx:=fE h.hx
 have ly:=fE h.hy
 have hx6:=h.x6
 have hy6:=h.y6
 have hd':d≠0:=by have:=h.dp;omega
 obtain ⟨h1,h2,h3⟩:=t5 (kk:=6) (u:=u) h.dp (by omega) (by omega) h.hx h.hy rfl rfl rfl
 generalize ba _ _=g at h1 h2 h3
 have hg:(((g:Nat):Int):Rat)≠0:=fun e=>by
  have e':((g:Nat):Int)=0:=by exact_mod_cast e
  rw [e',Int.mul_zero] at h1
  have:(0:Int)<d ^ 6:=Int.pow_pos h.dp
  omega
 have key:∀{z f:Nat->Int}{l T:Nat},T=tl z l->tl z l-1<=6->(∀i,i<T->rbZ z l u d 6 i=f i*(g:Int))->ev t T f=((dB Lx Ly u d:Int):Rat)*ev (t+u / d) l z:=fun {z f l T} hT hk hf=>by
  have e1:=Qi (u:=u) (z:=z) (n:=l) hd' hk t
  rw [<- h1,<- hT,gx (y:=fun i=>(g:Int)*f i) fun i hi=>(hf i hi).trans (Int.mul_comm _ _),nj,Rat.intCast_mul] at e1
  have h5:=Rat.mul_inv_cancel _ hg
  generalize (((g:Nat):Int):Rat)⁻¹=w at h5
  have h6:=congrArg (fun t=>t*w) e1
  grind
 exact ⟨key lx (by omega) h2,key ly (by omega) h3⟩
end
def Qj (n d:Int):List WP:=[Ni n,Ni d,Nz (o3 n 61),Ni ((o3 n 61:Int)-30),Nz (o3 d 6),Ni 1,Ni (1+(o3 d 6:Int)),Dw (aD ((o3 n 61:Int)-30) (1+(o3 d 6:Int))) 6,fun w v=>ae w v ((aD ((o3 n 61:Int)-30) (1+(o3 d 6:Int))).num) 6,fun w v=>ae w v ((aD ((o3 n 61:Int)-30) (1+(o3 d 6:Int))).den:Int) 6]
def Qk:List Step:=[.derive (.one (.ci .i64 1)) (.one (.lit (.ci .i64 1))) [] 5,
   .base ⟨48,[.fact 0,.lit (.ci .i64 61)],[oN 2],false⟩,
   bQ [.fact 2,.lit (.ci .i64 30)] [oN 3] (au .sub),
   .base ⟨48,[.fact 1,.lit (.ci .i64 6)],[oN 4],false⟩,
   bQ [.fact 5,.fact 4] [oN 6] (au .add),
   .base ⟨38,[.fact 3,.fact 6],[⟨.agg [.s,.b,.s,.b],[(0,0,7),(0,2,8),(2,2,9)]⟩],false⟩]
def Ql:List Out:=[oN 0,oN 1]
theorem Qm {n d:Int}  : ai (ph (Qj n d)) Tryz.prog ⟨33,[.fact 0,.fact 1],[oQ 7],false⟩:=by
 have h1:=rg n (n:=61) (by omega)
 have h2:=rg d (n:=6) (by omega)
 exact bg Ql [oQ 7] Qk Tryz.func33 (by kernel_rfl)
  (eD (mA rfl)
   (lB (Cy (n:=61) rfl ad (by omega) (by omega) rfl rfl)
   (lB (cI ad (rfl) rfl (by omega) (by omega))
   (lB (Cy (n:=6) rfl ad (by omega) (by omega) rfl rfl)
   (lB (mg ad ad (rfl) rfl (by omega) (by omega))
   (lB (Qg ad ad rfl rfl rfl (by omega) (by omega) (by omega) (by omega) rfl)
   aC))))))
  (aK [.fact 0 (.one (.i)),.fact 1 (.one (.i))] ⟨fun _ _ h=>h▸dl _,fun _ _ h=>h▸dl _,trivial⟩) (fun _ _ _ h=>h)
theorem tW {Φ:PH}{p q x:Nat}{n d:Int} (hp:∀w v,Φ p w v->v = .int .i64 n) (hq:∀w v,Φ q w v->v = .int .i64 d) (hx:Φ x=Dw (dL n d) 6):ai Φ Tryz.prog ⟨33,[.fact p,.fact q],[⟨sS,[(0,0,x)]⟩],false⟩:=
 bi (Qm (n:=n) (d:=d)) ⟨hp,hq,trivial⟩ ⟨⟨rfl,⟨rfl,rfl,fun _ _ h=>hx▸h⟩,trivial⟩,trivial⟩
def Qn (x y:Nat->Int) (n m k:Nat) (X Y:List Int):List WP:=[Rw 2 (If x k) n,Rw 2 (If y k) m,Rw 2 (Nf (an X) k) X.length,Rw 2 (Nf (an Y) k) Y.length,Nw (1:Int) 2]
def Qo:List Step:=[.base ⟨89,[.fact 0],[oS 2],false⟩,
   .base ⟨89,[.fact 1],[oS 3],false⟩,
   .base ⟨75,[.lit (.ci .i64 1)],[oI 4],false⟩]
def Qp:List Out:=[oS 0,oS 1]
theorem cof {x y:Nat->Int}{n m k:Nat}{X Y:List Int} (hn:n<=1000000) (hm:m<=1000000) (hk:k<=500000) (hX:aP (mk n x)=X) (hY:aP (mk m y)=Y):ai (ph (Qn x y n m k X Y)) Tryz.prog ⟨39,[.fact 0,.fact 1],[⟨.agg [.s,.s,.b,.s],[(0,1,2),(1,1,3),(2,2,4)]⟩],false⟩:=by
 skip
 exact bg Qp [⟨.agg [.s,.s,.b,.s],[(0,1,2),(1,1,3),(2,2,4)]⟩] Qo Tryz.func39 (by kernel_rfl)
  (lB (A5 (z:=x) (n:=n) (Rw.To 2 (If x k) n (fun _ _ _ _ h=>h)) rfl (by omega) (by omega) hX)
   (lB (A5 (z:=y) (n:=m) (Rw.To 2 (If y k) m (fun _ _ _ _ h=>h)) rfl (by omega) (by omega) hY)
   (lB (qX (z:=1) rfl (by decide) (by decide) rfl)
   aC)))
  (aK [.fact 0 (.one (.s)),.fact 1 (.one (.s))] ⟨Rw.Is 2 (If x k) n,Rw.Is 2 (If y k) m,trivial⟩) bh
section
variable {Φ:PH}{p q p0 p1 p2 n m k:Nat}{x y:Nat->Int}{X Y:List Int}
theorem AR (hp:∀w v,Φ p w v->Rw 2 (If x k) n w v) (hq:∀w v,Φ q w v->Rw 2 (If y k) m w v) (h0:Φ p0=Rw 2 (Nf (an X) k) X.length) (h1:Φ p1=Rw 2 (Nf (an Y) k) Y.length) (h2:Φ p2=Nw (1:Int) 2) (hn:n<=1000000) (hm:m<=1000000) (hk:k<=500000) (hX:aP (mk n x)=X) (hY:aP (mk m y)=Y) :
  ai Φ Tryz.prog ⟨39,[.fact p,.fact q],[⟨.agg [.s,.s,.b,.s],[(0,1,p0),(1,1,p1),(2,2,p2)]⟩],false⟩:=
 bi (cof (x:=x) (y:=y) hn hm hk hX hY) ⟨hp,hq,trivial⟩ ⟨⟨rfl,⟨rfl,rfl,fun _ _ h=>h0▸h⟩,⟨rfl,rfl,fun _ _ h=>h1▸h⟩,⟨rfl,rfl,fun _ _ h=>h2▸h⟩,trivial⟩,trivial⟩
end
def Qq (d:Int) (k:Nat):List WP:=[Nw d k,Nw d k]
def Qr:List Step:=[.base ⟨93,[.fact 0],[oI 1],false⟩,
   .base ⟨94,[.fact 1],oF,false⟩]
def Qs:List Out:=[⟨.agg [.s,.s,.b,.s],[(2,2,0)]⟩]
theorem Qt {d:Int}{k:Nat} (hd:d≠0) (hk:k<=100000):ai (ph (Qq d k)) Tryz.prog ⟨86,[.parts (.agg [.s,.s,.b,.s]) [(2,2,0)]],[oI 1],false⟩:=by
 skip
 exact bg Qs [oI 1] Qr Tryz.func86 (by kernel_rfl)
  (lB (uD nI rfl (by omega) rfl)
   (lB (CA nN (decide_eq_false hd))
   aC))
  (aK [.parts (.agg [.s,.s,.b,.s]) [(2,2,0)]] ⟨trivial,trivial⟩) bh
theorem Qu {Φ:PH}{p x k:Nat}{d:Int} (hp:∀w v,Φ p w v->ak w v d k) (hx:Φ x=Nw d k) (hd:d≠0) (hk:k<=100000):ai Φ Tryz.prog ⟨86,[.parts cS [(2,2,p)]],[⟨iS,[(0,0,x)]⟩],false⟩:=
 bi (Qt (d:=d) (k:=k) hd hk) ⟨⟨rfl,⟨rfl,rfl,hp⟩,trivial⟩,trivial⟩ ⟨⟨rfl,⟨rfl,rfl,fun _ _ h=>hx▸h⟩,trivial⟩,trivial⟩
def Qv (x y:Nat->Int) (nx ny k kt kn kd:Nat) (t:Rat) (d:Int):List WP:=[Rw 2 (If x k) nx,Rw 2 (If y k) ny,Nw d kd,fun w v=>bS w v t kt,Nw d kd,fun w v=>bk w v ((d:Int):Rat) (kd+2),Nw (((d:Int):Rat).num) (kd+2),Nw (((d:Int):Rat).den:Int) (kd+2),fun w v=>bk w v (ev t nx x) (kn+kn),Nw ((ev t nx x).num) (kn+kn),Nw ((ev t nx x).den:Int) (kn+kn),fun w v=>bk w v ((ev t nx x) / ((d:Int):Rat)) (2*((kn+kn)+(kd+2))+8),Nw (((ev t nx x) / ((d:Int):Rat)).num) (2*((kn+kn)+(kd+2))+8),Nw (((ev t nx x) / ((d:Int):Rat)).den:Int) (2*((kn+kn)+(kd+2))+8),fun w v=>bk w v (ev t ny y) (kn+kn),Nw ((ev t ny y).num) (kn+kn),Nw ((ev t ny y).den:Int) (kn+kn),fun w v=>bk w v ((ev t ny y) / ((d:Int):Rat)) (2*((kn+kn)+(kd+2))+8),Nw (((ev t ny y) / ((d:Int):Rat)).num) (2*((kn+kn)+(kd+2))+8),Nw (((ev t ny y) / ((d:Int):Rat)).den:Int) (2*((kn+kn)+(kd+2))+8)]
def Qw:List Step:=[.base ⟨86,[.parts cS [(2,2,2)]],[oI 4],false⟩,
   .base ⟨85,[.fact 4],[⟨.agg [.b,.s,.b,.s],[(0,0,5),(0,2,6),(2,2,7)]⟩],false⟩,
   .base ⟨88,[.fact 0,.fact 3],[⟨.agg [.b,.s,.b,.s],[(0,0,8),(0,2,9),(2,2,10)]⟩],false⟩,
   .base ⟨87,[.fact 8,.fact 5],[⟨.agg [.b,.s,.b,.s],[(0,0,11),(0,2,12),(2,2,13)]⟩,oL (.ci .i64 0)],true⟩,
   .base ⟨88,[.fact 1,.fact 3],[⟨.agg [.b,.s,.b,.s],[(0,0,14),(0,2,15),(2,2,16)]⟩],false⟩,
   .base ⟨87,[.fact 14,.fact 5],[⟨.agg [.b,.s,.b,.s],[(0,0,17),(0,2,18),(2,2,19)]⟩,oL (.ci .i64 0)],true⟩]
def Qx:List Out:=[⟨.agg [.s,.s,.b,.s],[(0,1,0),(1,1,1),(2,2,2)]⟩,oR 3]
theorem Qy {x y:Nat->Int}{nx ny k kt kn kd:Nat}{t:Rat}{d:Int} (hnx:nx<=1000000) (hny:ny<=1000000) (hk:k<=40000) (hkt:kt<=30000) (hkn:kn<=10000) (hkd:kd<=10000) (hd:d≠0) (hBx:∀j,j<=tl x nx-1->Bd (hN x (tl x nx) t.num t.den j).natAbs kn∧Bd (((t.den:Nat):Int) ^ j).natAbs kn) (hBy:∀j,j<=tl y ny-1->Bd (hN y (tl y ny) t.num t.den j).natAbs kn∧Bd (((t.den:Nat):Int) ^ j).natAbs kn):ai (ph (Qv x y nx ny k kt kn kd t d)) Tryz.prog ⟨34,[.parts (.agg [.s,.s,.b,.s]) [(0,1,0),(1,1,1),(2,2,2)],.fact 3],[oR 11,oR 17],true⟩:=by
 have hdq:((d:Int):Rat)≠0:=fun e=>hd (by exact_mod_cast e)
 exact bg Qx [oR 11,oR 17] Qw Tryz.func34 (by kernel_rfl)
  (lB (Qu (d:=d) (k:=kd) ad rfl hd (by omega))
   (lB (Qz nI rfl rfl rfl (by omega) rfl)
   (lB (CB (z:=x) (n:=nx) (kn:=kn) (Rw.To 2 (If x k) nx (fun _ _ _ _ h=>h)) qQ rfl rfl rfl (by omega) (by omega) (by omega) (by omega) hBx (CC x nx t))
   (lB (CE pQ pQ rfl rfl rfl (by omega) hdq rfl)
   (lB (CB (z:=y) (n:=ny) (kn:=kn) (Rw.To 2 (If y k) ny (fun _ _ _ _ h=>h)) qQ rfl rfl rfl (by omega) (by omega) (by omega) (by omega) hBy (CC y ny t))
   (lB (CE pQ pQ rfl rfl rfl (by omega) hdq rfl)
   aC))))))
  (aK [.parts (.agg [.s,.s,.b,.s]) [(0,1,0),(1,1,1),(2,2,2)],.fact 3 (.agg [.b,.s,.b,.s])] ⟨trivial,fun _ _ h=>bS.is h,trivial⟩) bh
section
variable {Φ:PH}{p0 p1 p2 q a b nx ny k kt kn kd:Nat}{x y:Nat->Int}{d:Int}{t vx vy:Rat}
theorem BS (h0:∀w v,Φ p0 w v->Rw 2 (If x k) nx w v) (h1:∀w v,Φ p1 w v->Rw 2 (If y k) ny w v) (h2:∀w v,Φ p2 w v->ak w v d kd) (hr:∀w v,Φ q w v->bS w v t kt) (ha:Φ a=fun w v=>bk w v vx (2*(kn+kn+(kd+2))+8)) (hb:Φ b=fun w v=>bk w v vy (2*(kn+kn+(kd+2))+8))
  (hnx:nx<=1000000) (hny:ny<=1000000) (hk:k<=40000) (hkt:kt<=30000) (hkn:kn<=10000) (hkd:kd<=10000) (hd:d≠0) (hBx:∀j,j<=tl x nx-1->Bd (hN x (tl x nx) t.num t.den j).natAbs kn∧Bd (((t.den:Nat):Int) ^ j).natAbs kn) (hBy:∀j,j<=tl y ny-1->Bd (hN y (tl y ny) t.num t.den j).natAbs kn∧Bd (((t.den:Nat):Int) ^ j).natAbs kn) (hvx:ev t nx x / ((d:Int):Rat)=vx) (hvy:ev t ny y / ((d:Int):Rat)=vy) :
  ai Φ Tryz.prog ⟨34,[.parts cS [(0,1,p0),(1,1,p1),(2,2,p2)],.fact q],[⟨qS,[(0,0,a)]⟩,⟨qS,[(0,0,b)]⟩],true⟩:=
 bi (Qy (x:=x) (y:=y) (k:=k) (kt:=kt) (kn:=kn) (kd:=kd) (t:=t) (d:=d) hnx hny hk hkt hkn hkd hd hBx hBy) ⟨⟨rfl,⟨rfl,rfl,h0⟩,⟨rfl,rfl,h1⟩,⟨rfl,rfl,h2⟩,trivial⟩,hr,trivial⟩ ⟨⟨rfl,⟨rfl,rfl,fun _ _ h=>ha▸hvx▸h⟩,trivial⟩,⟨rfl,⟨rfl,rfl,fun _ _ h=>hb▸hvy▸h⟩,trivial⟩,trivial⟩
end
def QA (x y:Nat->Int) (nx ny k:Nat):List WP:=[Rw 2 (If x k) nx,Rw 2 (If y k) ny,Nz (tl x nx-1),Nz (tl y ny-1),Ni ((max (tl x nx-1) (tl y ny-1):Nat):Int)]
def QB:List Step:=[.base ⟨80,[.fact 0],[oN 2],false⟩,
   .base ⟨80,[.fact 1],[oN 3],false⟩,
   bQ [.fact 2,.fact 3] [oN 4] (gw .max)]
def QC:List Out:=[⟨.agg [.s,.s,.b,.s],[(0,1,0),(1,1,1)]⟩]
theorem QD {x y:Nat->Int}{nx ny k:Nat} (hnx:nx<=1000000) (hny:ny<=1000000) (hk:k<=500000):ai (ph (QA x y nx ny k)) Tryz.prog ⟨36,[.parts (.agg [.s,.s,.b,.s]) [(0,1,0),(1,1,1)]],[oN 4],false⟩:=by
 have h1:=aV x nx
 have h2:=aV y ny
 exact bg QC [oN 4] QB Tryz.func36 (by kernel_rfl)
  (lB (oU (z:=x) (n:=nx) (Rw.To 2 (If x k) nx (fun _ _ _ _ h=>h)) rfl (by omega) (by omega))
   (lB (oU (z:=y) (n:=ny) (Rw.To 2 (If y k) ny (fun _ _ _ _ h=>h)) rfl (by omega) (by omega))
   (lB (oY ad ad (by split <;> omega) rfl)
   aC)))
  (aK [.parts (.agg [.s,.s,.b,.s]) [(0,1,0),(1,1,1)]] ⟨trivial,trivial⟩) bh
section
variable {Φ:PH}{p0 p1 q nx ny k:Nat}{x y:Nat->Int}
theorem BT (h0:∀w v,Φ p0 w v->Rw 2 (If x k) nx w v) (h1:∀w v,Φ p1 w v->Rw 2 (If y k) ny w v) (hx:Φ q=Ni ((max (tl x nx-1) (tl y ny-1):Nat):Int)) (hnx:nx<=1000000) (hny:ny<=1000000) (hk:k<=500000):ai Φ Tryz.prog ⟨36,[.parts cS [(0,1,p0),(1,1,p1)]],[oN q],false⟩:=
 bi (QD (x:=x) (y:=y) (k:=k) hnx hny hk) ⟨⟨rfl,⟨rfl,rfl,h0⟩,⟨rfl,rfl,h1⟩,trivial⟩,trivial⟩ ⟨⟨rfl,⟨rfl,rfl,fun _ _ h=>hx▸h⟩,trivial⟩,trivial⟩
end
def QE (a b:Int) (X Y:List Int):List WP:=[Ni a,Ni b,fun w v=>Rw 1 (fun i _ v=>v = .agg #[.int .i64 (an [a] i)]) 1 w v,Rw 2 (Nf (an X) 2) X.length,fun w v=>Rw 1 (fun i _ v=>v = .agg #[.int .i64 (an [b] i)]) 1 w v,Rw 2 (Nf (an Y) 2) Y.length,Rw 2 (Nf (an X) 2) X.length,Rw 2 (Nf (an Y) 2) Y.length,Nw (1:Int) 2]
def QF:List Step:=[.base ⟨0,[.any,.fact 0],[oS 2],.fresh [] (gv 22 1)⟩,
   .base ⟨23,[.fact 2],[oS 3],false⟩,
   .base ⟨0,[.any,.fact 1],[oS 4],.fresh [] (gv 22 1)⟩,
   .base ⟨23,[.fact 4],[oS 5],false⟩,
   .base ⟨39,[.fact 3,.fact 5],[⟨.agg [.s,.s,.b,.s],[(0,1,6),(1,1,7),(2,2,8)]⟩],false⟩]
def QG:List Out:=[oN 0,oN 1]
theorem QH {a b:Int}{X Y:List Int} (hza:∀i,-9223372036854775808<=an [a] i∧an [a] i<=9223372036854775807) (hzb:∀i,-9223372036854775808<=an [b] i∧an [b] i<=9223372036854775807) (hX:aP (mk 1 (an [a]))=X) (hY:aP (mk 1 (an [b]))=Y) (hXl:X.length<=1) (hYl:Y.length<=1) (hXX:aP (mk X.length (an X))=X) (hYY:aP (mk Y.length (an Y))=Y):ai (ph (QE a b X Y)) Tryz.prog ⟨32,[.fact 0,.fact 1],[⟨.agg [.s,.s,.b,.s],[(0,1,6),(1,1,7),(2,2,8)]⟩],false⟩:=by
 skip
 exact bg QG [⟨.agg [.s,.s,.b,.s],[(0,1,6),(1,1,7),(2,2,8)]⟩] QF Tryz.func32 (by kernel_rfl)
  (lB (jZ (ps:=[0]) (sz:=1) (n:=1) (F:=(fun i _ v=>v = .agg #[.int .i64 (an [a] i)])) (zc:=.one (.ci .i64 0)) Tryz.underlying22 (by kernel_rfl) (by omega) (by kernel_rfl) (by omega) (by omega) rfl (DK ad) rfl)
   (lB (CX (z:=(an [a])) (n:=1) (zs:=X) ad rfl (by omega) hza hX)
   (lB (jZ (ps:=[1]) (sz:=1) (n:=1) (F:=(fun i _ v=>v = .agg #[.int .i64 (an [b] i)])) (zc:=.one (.ci .i64 0)) Tryz.underlying22 (by kernel_rfl) (by omega) (by kernel_rfl) (by omega) (by omega) rfl (DK ad) rfl)
   (lB (CX (z:=(an [b])) (n:=1) (zs:=Y) ad rfl (by omega) hzb hY)
   (lB (AR (x:=(an X)) (y:=(an Y)) (k:=2) (Rw.To 2 (Nf (an X) 2) X.length (fun _ _ _ _ h=>ak.i h)) (Rw.To 2 (Nf (an Y) 2) Y.length (fun _ _ _ _ h=>ak.i h)) rfl rfl rfl (by omega) (by omega) (by omega) hXX hYY)
   aC)))))
  (aK [.fact 0 (.one (.i)),.fact 1 (.one (.i))] ⟨fun _ _ h=>h▸dl _,fun _ _ h=>h▸dl _,trivial⟩) (fun _ _ _ h=>h)
section
variable {Φ:PH}{p q p0 p1 p2:Nat}{a b:Int}{X Y:List Int}
theorem QI (hp:∀w v,Φ p w v->v = .int .i64 a) (hq:∀w v,Φ q w v->v = .int .i64 b) (h0:Φ p0=Rw 2 (Nf (an X) 2) X.length) (h1:Φ p1=Rw 2 (Nf (an Y) 2) Y.length) (h2:Φ p2=Nw (1:Int) 2) (ha1 : -9223372036854775808<=a) (ha2:a<=9223372036854775807) (hb1 : -9223372036854775808<=b) (hb2:b<=9223372036854775807) (hX:aP (mk 1 (an [a]))=X) (hY:aP (mk 1 (an [b]))=Y) :
  ai Φ Tryz.prog ⟨32,[.fact p,.fact q],[⟨.agg [.s,.s,.b,.s],[(0,1,p0),(1,1,p1),(2,2,p2)]⟩],false⟩:=
 bi (QH (uh fun x hx=>by simp at hx;omega) (uh fun x hx=>by simp at hx;omega) hX hY (by rw [<- hX,fe];exact aV _ _) (by rw [<- hY,fe];exact aV _ _) (tV (hX▸tK _)) (tV (hY▸tK _))) ⟨hp,hq,trivial⟩ ⟨⟨rfl,⟨rfl,rfl,fun _ _ h=>h0▸h⟩,⟨rfl,rfl,fun _ _ h=>h1▸h⟩,⟨rfl,rfl,fun _ _ h=>h2▸h⟩,trivial⟩,trivial⟩
end
def QJ (x y:Nat->Int) (nx ny k:Nat) (d D:Int) (X Y:List Int):List WP:=[Rw 2 (If x k) nx,Rw 2 (If y k) ny,Iw d k,Nw d k,Rw 2 (Nf (an X) k) X.length,Rw 2 (Nf (an Y) k) Y.length,Nw D k]
def QK:List Step:=[.base ⟨93,[.fact 2],[oI 3],false⟩,
   .base ⟨94,[.fact 3],oF,false⟩,
   .base ⟨81,[.fact 0,.fact 1,.fact 3],[⟨.agg [.s,.s,.b,.s],[(0,1,4),(1,1,5),(2,2,6)]⟩],false⟩]
def QL:List Out:=[oS 0,oS 1,oI 2]
theorem QM {x y:Nat->Int}{nx ny k:Nat}{d D:Int}{X Y:List Int} (hx:nx<=400000) (hy:ny<=400000) (hk:k<=400000) (hdp:0<d) (hX:dvL x nx ((ba (b7 (aA x y) (aA nx ny) d) ((aL (aA x y) (aA nx ny) 2).length+1):Nat):Int)=X) (hY:dvL y ny ((ba (b7 (aA x y) (aA nx ny) d) ((aL (aA x y) (aA nx ny) 2).length+1):Nat):Int)=Y) (hD:d / ((ba (b7 (aA x y) (aA nx ny) d) ((aL (aA x y) (aA nx ny) 2).length+1):Nat):Int)=D):ai (ph (QJ x y nx ny k d D X Y)) Tryz.prog ⟨43,[.fact 0,.fact 1,.fact 2],[⟨.agg [.s,.s,.b,.s],[(0,1,4),(1,1,5),(2,2,6)]⟩,oL (.ci .i64 0)],true⟩:=by
 have hd:d≠0:=by omega
 exact bg QL [⟨.agg [.s,.s,.b,.s],[(0,1,4),(1,1,5),(2,2,6)]⟩,oL (.ci .i64 0)] QK Tryz.func43 (by kernel_rfl)
  (lB (uD iI rfl (by omega) rfl)
   (lB (CA nN (decide_eq_false hd))
   (lB (Bw (x:=x) (y:=y) (nx:=nx) (ny:=ny) (d:=d) (X:=X) (Y:=Y) (D:=D) (k:=k) (fun w v h=>Rw.to (sz:=2) (n:=nx) (F:=If x k) ((Rw.To 2 (If x k) nx (fun _ _ _ _ h=>h)) w v h) fun i w v _ h=>aj.more h (by omega)) (fun w v h=>Rw.to (sz:=2) (n:=ny) (F:=If y k) ((Rw.To 2 (If y k) ny (fun _ _ _ _ h=>h)) w v h) fun i w v _ h=>aj.more h (by omega)) (fun _ _ h=>ak.more h (by omega)) rfl rfl rfl (by omega) (by omega) (by omega) hdp hX hY hD)
   aC)))
  (aK [.fact 0 (.one (.s)),.fact 1 (.one (.s)),.fact 2 (.agg [.b,.s])] ⟨Rw.Is 2 (If x k) nx,Rw.Is 2 (If y k) ny,fun _ _ h=>aj.is h,trivial⟩) bh
theorem DL (L:List Int):mk L.length (an L)=L:=by
 apply List.ext_getElem (by rw [eM])
 intro i h1 h2
 simp [mk,an,List.getD_eq_getElem?_getD,List.getElem?_eq_getElem h2]
section
variable {Φ:PH}{p q r p0 p1 p2 k:Nat}{A B X Y:List Int}{C D:Int}{qx qy:Nat->Rat}
theorem DM (hp:∀w v,Φ p w v->Rw 2 (If (an A) k) A.length w v) (hq:∀w v,Φ q w v->Rw 2 (If (an B) k) B.length w v) (hr:∀w v,Φ r w v->aj w v C k) (h0:Φ p0=Rw 2 (Nf (an X) k) X.length) (h1:Φ p1=Rw 2 (Nf (an Y) k) Y.length) (h2:Φ p2=Nw D k)
  (hA:A.length<=400000) (hB:B.length<=400000) (hk:k<=400000) (hC:0<C) (nA:o5 A) (nB:o5 B) (ex:∀i,i<A.length->qx i*((C:Int):Rat)=((an A i:Int):Rat)) (ey:∀i,i<B.length->qy i*((C:Int):Rat)=((an B i:Int):Rat))
  (hX:mk A.length (cuX qx (dnL (aW A.length qx qy) (A.length+B.length)))=X) (hY:mk B.length (cuX qy (dnL (aW A.length qx qy) (A.length+B.length)))=Y) (hD:((dnL (aW A.length qx qy) (A.length+B.length):Nat):Int)=D) :
  ai Φ Tryz.prog ⟨43,[.fact p,.fact q,.fact r],[⟨.agg [.s,.s,.b,.s],[(0,1,p0),(1,1,p1),(2,2,p2)]⟩,oL (.ci .i64 0)],true⟩:=by
 have h:=BZ (q:=aW A.length qx qy) (R:=dh A.length (an A) (an B)) (C:=C) (n:=A.length+B.length) hC fun i hi=>by
  unfold aW dh
  split
  ·exact ex i (by omega)
  ·exact ey _ (by omega)
 have e:ba (dh (A.length+B.length) (dh A.length (an A) (an B)) fun _=>C) (A.length+B.length+1)=ba (b7 (aA (an A) (an B)) (aA A.length B.length) C) ((aL (aA (an A) (an B)) (aA A.length B.length) 2).length+1):=by
  rw [ie]
  refine pc fun i hi=>?_
  unfold dh
  split
  ·split
   ·rw [ti (by omega)]
   ·have:=tj (x:=an A) (y:=an B) (nx:=A.length) (ny:=B.length) (d:=C) (i:=i-A.length) (by omega)
    rw [show A.length+(i-A.length)=i by omega] at this
    rw [this]
  ·obtain rfl:i=A.length+B.length:=by omega
   have:=oJ (zz:=aA (an A) (an B)) (ln:=aA A.length B.length) (d:=C)
   rw [ie] at this
   exact this
 have hg0:=th (zz:=aA (an A) (an B)) (ln:=aA A.length B.length) (d:=C) (by omega)
 rw [e] at h
 have dv:∀{L:List Int},o5 L->∀{g:Int},g≠0->∀{f:Nat->Int},(∀i,i<L.length->an L i=f i*g)->dvL (an L) L.length g=mk L.length f:=fun {L} hL {g} hg {f} hf=>by
  rw [dvL,pg hL]
  refine mk_congr fun i hi=>?_
  rw [hf i hi,Int.mul_ediv_cancel _ hg]
 refine bi (QM (x:=an A) (y:=an B) (nx:=A.length) (ny:=B.length) (k:=k) (d:=C) (D:=D) (X:=X) (Y:=Y) hA hB hk hC ((dv nA hg0 fun i hi=>?_).trans hX) ((dv nB hg0 fun i hi=>?_).trans hY) (((congrArg (· / _) h.1.symm).trans (Int.mul_ediv_cancel _ hg0)).trans hD)) ⟨hp,hq,hr,trivial⟩ ⟨⟨rfl,⟨rfl,rfl,fun _ _ h=>h0▸h⟩,⟨rfl,rfl,fun _ _ h=>h1▸h⟩,⟨rfl,rfl,fun _ _ h=>h2▸h⟩,trivial⟩,⟨rfl,trivial⟩,trivial⟩
 ·have:=h.2 i (by omega)
  rwa [dh,if_pos hi,show cuX (aW A.length qx qy) (dnL (aW A.length qx qy) (A.length+B.length)) i=cuX qx (dnL (aW A.length qx qy) (A.length+B.length)) i by unfold cuX aW;rw [if_pos hi]] at this
 ·have:=h.2 (A.length+i) (by omega)
  rwa [dh,if_neg (by omega),Nat.add_sub_cancel_left,show cuX (aW A.length qx qy) (dnL (aW A.length qx qy) (A.length+B.length)) (A.length+i)=cuX qy (dnL (aW A.length qx qy) (A.length+B.length)) i by unfold cuX aW;rw [if_neg (by omega),Nat.add_sub_cancel_left]] at this
end
theorem DN {c:Nat->Int}{u:Int}{M U m:Nat} (hc:∀i,i<m->(c i).natAbs<=M) (hu:u.natAbs<=U):∀r i,i+r<=m->(hsum c u r i).natAbs<=M*(1+U) ^ r
 | 0,_,_=>Nat.zero_le _
 | r+1,i,h=>by
  have h1:=DN hc hu r (i+1) (by omega)
  have h2:=hc i (by omega)
  have h3:(hsum c u (r+1) i).natAbs<=(c i).natAbs+(hsum c u r (i+1)).natAbs*u.natAbs:=by
   rw [hsum,<- Int.natAbs_mul];exact Int.natAbs_add_le _ _
  have h4:=Nat.mul_le_mul h1 hu
  have h5:M<=M*(1+U) ^ r:=Nat.le_mul_of_pos_right _ (Nat.pow_pos (by omega))
  rw [Nat.pow_succ,<- Nat.mul_assoc,Nat.mul_add,Nat.mul_one]
  omega
theorem DO {c:Nat->Int}{u:Int}{M U m:Nat} (hc:∀i,i<m->(c i).natAbs<=M) (hu:u.natAbs<=U):∀j i,i<m->(shS c u m j i).natAbs<=M*((1+U) ^ m) ^ j
 | 0,i,hi=>by rw [Nat.pow_zero,Nat.mul_one];exact hc i hi
 | j+1,i,hi=>by
  have ih:=DO hc hu j
  have hp:0<(1+U) ^ m:=Nat.pow_pos (by omega)
  rw [shS,Nat.pow_succ,<- Nat.mul_assoc]
  split
  ·exact Nat.le_trans (ih i hi) (Nat.le_mul_of_pos_right _ hp)
  ·refine Nat.le_trans (DN ih hu (m-i) i (by omega)) (Nat.mul_le_mul_left _ (Nat.pow_le_pow_right (by omega) (by omega)))
theorem DQ {z:Nat->Int}{n kk M U V:Nat}{u d:Int} (hz:∀i,i<n->(z i).natAbs<=M) (hu:u.natAbs<=U) (hd:d.natAbs<=V) (hV:1<=V) (h3:tl z n<=3) (hk:kk<=2) (i:Nat) (hi:i<tl z n):(rbZ z n u d kk i).natAbs<=M*V ^ 2*((1+U) ^ 3) ^ 3*V ^ 2*V ^ 2:=by
 have hle:=aV z n
 have pw:∀j,j<=2->(d ^ j).natAbs<=V ^ 2:=fun j hj=>by
  rw [Int.natAbs_pow]
  exact Nat.le_trans (Nat.pow_le_pow_left hd j) (Nat.pow_le_pow_right hV hj)
 have h1:∀i,i<tl z n->(iE z n d i).natAbs<=M*V ^ 2:=fun i hi=>by
  rw [iE,Int.natAbs_mul]
  exact Nat.mul_le_mul (hz i (by omega)) (pw _ (by omega))
 have h2:=DO h1 hu (tl z n) i hi
 have h4:((1+U) ^ tl z n) ^ tl z n<=((1+U) ^ 3) ^ 3:=Nat.le_trans (Nat.pow_le_pow_left (Nat.pow_le_pow_right (by omega) h3) _) (Nat.pow_le_pow_right (Nat.pow_pos (by omega)) h3)
 rw [rbZ,t7 hi,Int.natAbs_mul,Int.natAbs_mul]
 exact Nat.mul_le_mul (Nat.mul_le_mul (Nat.le_trans h2 (Nat.mul_le_mul_left _ h4)) (pw _ (by omega))) (pw _ (by omega))
section
variable {x y:Nat->Int}{n m:Nat}{u d:Int}{Lx Ly:List Int}
theorem ik.small (h:ik x y n m u d Lx Ly) (hx3:Lx.length<=3) (hy3:Ly.length<=3) (hu:u.natAbs<=30) (hd:d.natAbs<=6) (hbx:∀i,i<n->Bd (x i).natAbs 1) (hby:∀i,i<m->Bd (y i).natAbs 1):(∀i,i<Lx.length->Bd (cuX (qB Lx u d) (dB Lx Ly u d) i).natAbs 3)∧(∀i,i<Ly.length->Bd (cuX (qB Ly u d) (dB Lx Ly u d) i).natAbs 3):=by
 have lx:=fE h.hx
 have ly:=fE h.hy
 have hd':d≠0:=by have:=h.dp;omega
 obtain ⟨h1,h2,h3⟩:=t5 (kk:=2) (u:=u) h.dp (by omega) (by omega) h.hx h.hy rfl rfl rfl
 generalize ba _ _=g at h1 h2 h3
 have hg:0<g:=by
  rcases Nat.eq_zero_or_pos g with e | e
  ·rw [e] at h1
   have:(0:Int)<d ^ 2:=Int.pow_pos h.dp
   omega
  ·exact e
 have hle:∀{a b:Int},a=b*(g:Int)->b.natAbs<=a.natAbs:=fun {a b} e=>by
  rw [e,Int.natAbs_mul,Int.natAbs_natCast]
  exact Nat.le_mul_of_pos_right _ hg
 have fin:∀{a:Nat},a<=4294967295*6 ^ 2*((1+30) ^ 3) ^ 3*6 ^ 2*6 ^ 2->Bd a 3:=fun h=>Nat.lt_of_le_of_lt h (by decide)
 have one:∀{a:Nat},Bd a 1->a<=4294967295:=fun {a} h=>by
  have:a<4294967296 ^ 1:=h
  omega
 exact ⟨fun i hi=>fin (Nat.le_trans (hle (h2 i hi)) (DQ (fun i hi=>one (hbx i hi)) hu hd (by omega) (by omega) (Nat.le_refl 2) i (by omega))),fun i hi=>fin (Nat.le_trans (hle (h3 i hi)) (DQ (fun i hi=>one (hby i hi)) hu hd (by omega) (by omega) (Nat.le_refl 2) i (by omega)))⟩
end
theorem tY {w:World}{v:Value}{z:Nat->Int}{n k l:Nat} (hb:∀i,i<n->Bd (z i).natAbs l) (h:Rw 2 (Nf z k) n w v):Rw 2 (If z l) n w v:=Rw.to h fun i _ _ hi h=>ak.i (ak.re h (hb i hi))
theorem B6 (n d:Int):(dL n d).num.natAbs<=30∧(dL n d).den<=6:=by
 have h1:=rg n (n:=61) (by omega)
 have h2:=rg d (n:=6) (by omega)
 unfold dL aD
 rw [if_neg (by omega)]
 have a:=o8 ((o3 n 61:Int)-30) (1+(o3 d 6:Int))
 have b:=o9 (n:=(o3 n 61:Int)-30) (d:=1+(o3 d 6:Int)) (by omega)
 omega
theorem QN (n d m k:Int):Bd (dL n d+dL m k).num.natAbs 2∧Bd (dL n d+dL m k).den 2:=by
 have h1:=B6 n d
 have h2:=B6 m k
 have p1:=(dL n d).den_pos
 have p2:=(dL m k).den_pos
 have e:dL n d+dL m k=Rat.divInt ((dL n d).num*(dL m k).den+(dL m k).num*(dL n d).den) ((dL n d).den*(dL m k).den):=by
  have e1:=BV (dL n d)
  have e2:=BV (dL m k)
  have n1:((((dL n d).den:Nat):Int):Rat)≠0:=by exact_mod_cast (dL n d).den_nz
  have n2:((((dL m k).den:Nat):Int):Rat)≠0:=by exact_mod_cast (dL m k).den_nz
  rw [Rat.divInt_eq_div,Rat.intCast_add,Rat.intCast_mul,Rat.intCast_mul,Rat.intCast_mul,<- e1,<- e2]
  grind
 rw [e]
 have a:=o8 ((dL n d).num*(dL m k).den+(dL m k).num*(dL n d).den) ((dL n d).den*(dL m k).den)
 have b:=o9 (n:=(dL n d).num*(dL m k).den+(dL m k).num*(dL n d).den) (d:=(dL n d).den*(dL m k).den) (by rw [<- Int.natCast_mul];have:=Nat.mul_pos p1 p2;omega)
 have c1:((dL n d).num*(dL m k).den).natAbs<=30*6:=by rw [Int.natAbs_mul,Int.natAbs_natCast];exact Nat.mul_le_mul h1.1 h2.2
 have c2:((dL m k).num*(dL n d).den).natAbs<=30*6:=by rw [Int.natAbs_mul,Int.natAbs_natCast];exact Nat.mul_le_mul h2.1 h1.2
 have c3:(((dL n d).den:Int)*(dL m k).den).natAbs<=6*6:=by rw [Int.natAbs_mul,Int.natAbs_natCast,Int.natAbs_natCast];exact Nat.mul_le_mul h1.2 h2.2
 have c4:=Int.natAbs_add_le ((dL n d).num*(dL m k).den) ((dL m k).num*(dL n d).den)
 constructor
 ·show _<4294967296 ^ 2
  omega
 ·show _<4294967296 ^ 2
  omega
section
variable {x y:Nat->Int}{n m:Nat}{q:Rat}{Lx Ly X Y:List Int}
theorem t9 (h:ik x y n m (-q).num (((-q).den:Nat):Int) Lx Ly) (hX:mk Lx.length (cuX (qB Lx (-q).num (((-q).den:Nat):Int)) (dB Lx Ly (-q).num (((-q).den:Nat):Int)))=X) (hY:mk Ly.length (cuX (qB Ly (-q).num (((-q).den:Nat):Int)) (dB Lx Ly (-q).num (((-q).den:Nat):Int)))=Y) :
  X.length=Lx.length∧Y.length=Ly.length∧o5 X∧o5 Y∧(∀t:Rat,ev t X.length (an X)=((((dB Lx Ly (-q).num (((-q).den:Nat):Int):Nat):Int):Int):Rat)*ev (t-q) n x)∧(∀t:Rat,ev t Y.length (an Y)=((((dB Lx Ly (-q).num (((-q).den:Nat):Int):Nat):Int):Int):Rat)*ev (t-q) m y):=by
 obtain ⟨-,-,-,a4,a5⟩:=h.all
 have hq:∀t:Rat,t+(((-q).num:Int):Rat) / ((((-q).den:Nat):Int):Rat)=t-q:=fun t=>by
  have:=Rat.num_divInt_den (-q)
  rw [Rat.divInt_eq_div] at this
  rw [this]
  grind
 have e:∀{f:Nat->Int}{l:Nat}{t:Rat},ev t (mk l f).length (an (mk l f))=ev t l f:=fun {f l t}=>by
  rw [eM,gx (y:=f) fun i hi=>by rw [eu,if_pos hi]]
 have nr:∀{f:Nat->Int}{l:Nat},(0<l->f (l-1)≠0)->o5 (mk l f):=fun {f l} h h0=>by
  rw [eM] at h0 ⊢
  rw [eu,if_pos (by omega)]
  exact h h0
 subst hX hY
 refine ⟨eM _ _,eM _ _,nr a4,nr a5,fun t=>?_,fun t=>?_⟩
 ·rw [e,(AQ h t).1,hq]
 ·rw [e,(AQ h t).2,hq]
end
theorem uE {A B:List Int}{q:Nat->Rat}{C D:Int} (hD:D≠0) (hl:B.length=A.length) (hq:∀i,i<A.length->q i*((D:Int):Rat)=((an B i:Int):Rat)) (hev:∀t:Rat,((D:Int):Rat)*ev t A.length (an A)=((C:Int):Rat)*ev t B.length (an B)) (i:Nat) (hi:i<A.length):q i*((C:Int):Rat)=((an A i:Int):Rat):=by
 have h:D*an A i=C*an B i:=BP (n:=A.length) (z:=fun i=>D*an A i) (y:=fun i=>C*an B i) (fun t=>by rw [nj,nj,hev,hl]) i hi
 have h':((D:Int):Rat)*((an A i:Int):Rat)=((C:Int):Rat)*((an B i:Int):Rat):=by rw [<- Rat.intCast_mul,<- Rat.intCast_mul,h]
 have hD':((D:Int):Rat)≠0:=fun e=>hD (by exact_mod_cast e)
 have h1:=Rat.mul_inv_cancel _ hD'
 have h2:=hq i hi
 generalize ((D:Int):Rat)⁻¹=w at h1
 have h3:=congrArg (fun t=>t*w) h'
 grind
theorem DR {q:Nat->Rat} (h:∀i,(q i).den=1):∀n,dnL q n=1
 | 0=>rfl
 | n+1=>by rw [dnL,DR h n,h];rfl
theorem QO {L M:List Int} (i:Nat):(aW L.length (fun i=>((an L i:Int):Rat)) (fun i=>((an M i:Int):Rat)) i).den=1:=by
 unfold aW
 split <;> rfl
theorem DS (L:List Int) (i:Nat):cuX (fun i=>((an L i:Int):Rat)) 1 i=an L i:=by
 show an L i*((1 / 1:Nat):Int)=_
 rw [Nat.div_self (by omega)]
 exact Int.mul_one _
end Go.Proofs.YthmcngjhkmpneaaGreat.Sym
