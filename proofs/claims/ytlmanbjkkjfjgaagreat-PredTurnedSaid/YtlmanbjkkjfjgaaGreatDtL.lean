/- Values of curves -/
import Derived.Test.YtlmanbjkkjfjgaaGreatCurW
import Derived.Test.YtlmanbjkkjfjgaaGreatCatN
set_option maxRecDepth 100000
namespace Go.Proofs.YtlmanbjkkjfjgaaGreat.Sym
open Go.Proofs.Tryz
open Go.RowKit
variable {F Φ:PH}{c c' i k k' m n p q x:Nat}{d:Int}{A B X Y:List Int}
def aW (n d:Int):Rat:=aH ((fq n 61:Int)-30) (1+(fq d 6:Int))
theorem OG (n d:Int):Bd (aW n d).num.natAbs 1∧Bd (aW n d).den 1:=by
 have h1:=sj n (n:=61);have h2:=sj d (n:=6);refine OF ?_ ?_
 ·show _<4294967296 ^ 1;omega
 ·show _<4294967296 ^ 1;omega
theorem OH {x1 x2:Nat}{z y:Int}{t:Rat} (hp:Im Φ p (Ni z)) (hq:Im Φ q (Ni y)) (hx:Φ x=Dw t 6) (hx1:Φ x1=Jw t.num 6) (hx2:Φ x2=Jw (t.den:Int) 6) (ht:aH z y=t) (z1:-9223372036854775808<=z:=by omega) (z2:z<=9223372036854775807:=by omega) (y1:-9223372036854775808<=y:=by omega) (y2:y<=9223372036854775807:=by omega):aj Φ prog ⟨41,[.fact p,.fact q],[⟨sS,[(0,0,x),(0,2,x1),(2,2,x2)]⟩],false⟩:=
 fe λ_ _ _ _ h0 h1=>by obtain rfl:=hp _ _ (get h0);obtain rfl:=hq _ _ (get h1);exact (ww z y z1 z2 y1 y2 ht).mono λ_ _ h=>lE hx hx1 hx2 h
theorem Ck {L:List Int} (h:ct L):aw (mk L.length (ae L))=L:=by
 have:mk L.length (ae L)=L:=by apply List.ext_getElem (by rw [dc]);intro i h1 h2;simp [mk,ae,List.getD_eq_getElem?_getD,List.getElem?_eq_getElem h2]
 rw [this];exact OI h
section
variable {x y:Nat->Int}{u:Int}{Lx Ly:List Int}
end
def OJ (n d:Int):List WP:=[Ni n,Ni d,Nz (fq n 61),Ni ((fq n 61:Int)-30),Nz (fq d 6),Ni 1,Ni (1+(fq d 6:Int)),Dw (aH ((fq n 61:Int)-30) (1+(fq d 6:Int))) 6,Jw ((aH ((fq n 61:Int)-30) (1+(fq d 6:Int))).num) 6,Jw ((aH ((fq n 61:Int)-30) (1+(fq d 6:Int))).den:Int) 6]
def OK:List Step:=[.derive (.one (Ai 1)) (.one (.lit (Ai 1))) [] 5,
   cB 7 [0,.lit (Ai 61)] [oN 2],bQ [2,.lit (Ai 30)] [oN 3] (am .sub),
   cB 7 [1,.lit (Ai 6)] [oN 4],bQ [5,4] [oN 6] (am .add),
   cB 41 [3,6] [⟨.agg [.s,.b,.s,.b],[(0,0,7),(0,2,8),(2,2,9)]⟩]]
def OL:List Out:=[oN 0,oN 1]
theorem OM {n:Int}  : aj (ph (OJ n d)) prog ⟨20,[0,1],[oQ 7],false⟩:=by
 have h1:=sj n (n:=61);have h2:=sj d (n:=6);exact adL OL [oQ 7] OK func20 (by kernel_rfl) (bk (dC rfl) (lB (Bn (n:=61) rfl ad rfl rfl) (lB (cO ad (hc:=(rfl)) rfl) (lB (Bn (n:=6) rfl ad rfl rfl) (lB (jG ad ad (hc:=(rfl)) rfl) (lB (OH ad ad rfl rfl rfl rfl) au))))))
  (aP [.fact 0 (.one (.i)),.fact 1 (.one (.i))] ⟨λ_ _ h=>h▸cY _,λ_ _ h=>h▸cY _,trivial⟩) (λ_ _ _ h=>h)
theorem Cm {n:Int} (hp:Im Φ p (Ni n)) (hq:Im Φ q (Ni d)) (hx:Φ x=Dw (aW n d) 6):aj Φ prog ⟨20,[.fact p,.fact q],[⟨sS,[(0,0,x)]⟩],false⟩:=
 aU (OM (n:=n) (d:=d)) ⟨hp,hq,trivial⟩ ⟨⟨rfl,⟨rfl,rfl,λ_ _ h=>hx▸h⟩,trivial⟩,trivial⟩
def ON (x y:Nat->Int) (n m k:Nat) (X Y:List Int):List WP:=[Rw 2 (If x k) n,Rw 2 (If y k) m,Rw 2 (Nf (ae X) k) X.length,Rw 2 (Nf (ae Y) k) Y.length,Nw (1:Int) 2]
def OP:List Step:=[cB 67 [0] [oS 2],
   cB 67 [1] [oS 3],
   cB 68 [.lit (Ai 1)] [oI 4]]
def OQ:List Out:=[oS 0,oS 1]
theorem cof {x y:Nat->Int} (hn:n<=1000000) (hm:m<=1000000) (hk:k<=500000) (hX:aw (mk n x)=X) (hY:aw (mk m y)=Y):aj (ph (ON x y n m k X Y)) prog ⟨37,[0,1],[⟨.agg [.s,.s,.b,.s],[(0,1,2),(1,1,3),(2,2,4)]⟩],false⟩:=adL OQ [⟨.agg [.s,.s,.b,.s],[(0,1,2),(1,1,3),(2,2,4)]⟩] OP func37 (by kernel_rfl) (lB (wy (z:=x) (n:=n) (Rw.To 2 (If x k) n (λ_ _ _ _ h=>h)) rfl hX) (lB (wy (z:=y) (n:=m) (Rw.To 2 (If y k) m (λ_ _ _ _ h=>h)) rfl hY) (lB (wA (z:=1) rfl rfl) au)))
  (aP [.fact 0 (.one (.s)),.fact 1 (.one (.s))] ⟨Rw.Is 2 (If x k) n,Rw.Is 2 (If y k) m,trivial⟩) aV
section
variable {p0 p1 p2:Nat}{x y:Nat->Int}
theorem Cn (hp:Im Φ p (Rw 2 (If x k) n)) (hq:Im Φ q (Rw 2 (If y k) m)) (h0:Φ p0=Rw 2 (Nf (ae X) k) X.length) (h1:Φ p1=Rw 2 (Nf (ae Y) k) Y.length) (h2:Φ p2=Nw (1:Int) 2) (hX:aw (mk n x)=X) (hY:aw (mk m y)=Y) (hn:n<=1000000:=by omega) (hm:m<=1000000:=by omega) (hk:k<=500000:=by omega) :
  aj Φ prog ⟨37,[.fact p,.fact q],[⟨.agg [.s,.s,.b,.s],[(0,1,p0),(1,1,p1),(2,2,p2)]⟩],false⟩:=
 aU (cof (x:=x) (y:=y) hn hm hk hX hY) ⟨hp,hq,trivial⟩ ⟨⟨rfl,⟨rfl,rfl,λ_ _ h=>h0▸h⟩,⟨rfl,rfl,λ_ _ h=>h1▸h⟩,⟨rfl,rfl,λ_ _ h=>h2▸h⟩,trivial⟩,trivial⟩
end
section
variable {p0 p1 p2 a b nx ny kt kn kd:Nat}{x y:Nat->Int}{t vx vy:Rat}
end
section
variable {p0 p1 nx ny:Nat}{x y:Nat->Int}
end
def OR (a b:Int) (X Y:List Int):List WP:=[Ni a,Ni b,λw v=>Rw 1 (λi _ v=>v = .agg #[.int .i64 (ae [a] i)]) 1 w v,Rw 2 (Nf (ae X) 2) X.length,λw v=>Rw 1 (λi _ v=>v = .agg #[.int .i64 (ae [b] i)]) 1 w v,Rw 2 (Nf (ae Y) 2) Y.length,Rw 2 (Nf (ae X) 2) X.length,Rw 2 (Nf (ae Y) 2) Y.length,Nw (1:Int) 2]
def OS:List Step:=[.base ⟨0,[.any,0],[oS 2],.fresh [] (dl 22 1)⟩,
   cB 38 [2] [oS 3],.base ⟨0,[.any,1],[oS 4],.fresh [] (dl 22 1)⟩,
   cB 38 [4] [oS 5],
   cB 37 [3,5] [⟨.agg [.s,.s,.b,.s],[(0,1,6),(1,1,7),(2,2,8)]⟩]]
def OT:List Out:=[oN 0,oN 1]
theorem OU {a b:Int} (hza:∀i,-9223372036854775808<=ae [a] i∧ae [a] i<=9223372036854775807) (hzb:∀i,-9223372036854775808<=ae [b] i∧ae [b] i<=9223372036854775807) (hX:aw (mk 1 (ae [a]))=X) (hY:aw (mk 1 (ae [b]))=Y) (hXl:X.length<=1) (hYl:Y.length<=1) (hXX:aw (mk X.length (ae X))=X) (hYY:aw (mk Y.length (ae Y))=Y):aj (ph (OR a b X Y)) prog ⟨8,[0,1],[⟨.agg [.s,.s,.b,.s],[(0,1,6),(1,1,7),(2,2,8)]⟩],false⟩:=adL OT [⟨.agg [.s,.s,.b,.s],[(0,1,6),(1,1,7),(2,2,8)]⟩] OS func8 (by kernel_rfl) (lB (fM (ps:=[0]) (sz:=1) (n:=1) (F:=(λi _ v=>v = .agg #[.int .i64 (ae [a] i)])) (zc:=.one (Ai 0)) underlying22 rfl (ow ad) rfl) (lB (wB (z:=(ae [a])) (n:=1) (zs:=X) ad rfl hza hX) (lB (fM (ps:=[1]) (sz:=1) (n:=1) (F:=(λi _ v=>v = .agg #[.int .i64 (ae [b] i)])) (zc:=.one (Ai 0)) underlying22 rfl (ow ad) rfl) (lB (wB (z:=(ae [b])) (n:=1) (zs:=Y) ad rfl hzb hY) (lB (Cn (x:=(ae X)) (y:=(ae Y)) (k:=2) (Rw.To 2 (Nf (ae X) 2) X.length (λ_ _ _ _ h=>ak.i h)) (Rw.To 2 (Nf (ae Y) 2) Y.length (λ_ _ _ _ h=>ak.i h)) rfl rfl rfl hXX hYY) au)))))
  (aP [.fact 0 (.one (.i)),.fact 1 (.one (.i))] ⟨λ_ _ h=>h▸cY _,λ_ _ h=>h▸cY _,trivial⟩) (λ_ _ _ h=>h)
section
variable {p0 p1 p2:Nat}{a b:Int}
theorem sD (hp:Im Φ p (Ni a)) (hq:Im Φ q (Ni b)) (h0:Φ p0=Rw 2 (Nf (ae X) 2) X.length) (h1:Φ p1=Rw 2 (Nf (ae Y) 2) Y.length) (h2:Φ p2=Nw (1:Int) 2) (ha1:-9223372036854775808<=a:=by decide) (ha2:a<=9223372036854775807:=by decide) (hb1:-9223372036854775808<=b:=by decide) (hb2:b<=9223372036854775807:=by decide) (hX:aw (mk 1 (ae [a]))=X:=by decide) (hY:aw (mk 1 (ae [b]))=Y:=by decide) :
  aj Φ prog ⟨8,[.fact p,.fact q],[⟨.agg [.s,.s,.b,.s],[(0,1,p0),(1,1,p1),(2,2,p2)]⟩],false⟩:=
 aU (OU (qh λ_ hx=>by simp at hx;omega) (qh λ_ hx=>by simp at hx;omega) hX hY (by rw [<- hX,fF];exact bg _ _) (by rw [<- hY,fF];exact bg _ _) (Ck (hX▸jO _)) (Ck (hY▸jO _))) ⟨hp,hq,trivial⟩ ⟨⟨rfl,⟨rfl,rfl,λ_ _ h=>h0▸h⟩,⟨rfl,rfl,λ_ _ h=>h1▸h⟩,⟨rfl,rfl,λ_ _ h=>h2▸h⟩,trivial⟩,trivial⟩
end
section
variable {r p0 p1 p2:Nat}{C D:Int}{qx qy:Nat->Rat}
end
theorem Co {c:Nat->Int}{u:Int}{M U m:Nat} (hc:∀i,i<m->(c i).natAbs<=M) (hu:u.natAbs<=U):∀r i,i+r<=m->(hsum c u r i).natAbs<=M*(1+U) ^ r
 | 0,_,_=>Nat.zero_le _
 | r+1,i,h=>by
  have h1:=Co hc hu r (i+1) (by omega);have h2:=hc i (by omega);have h3:(hsum c u (r+1) i).natAbs<=(c i).natAbs+(hsum c u r (i+1)).natAbs*u.natAbs:=by rw [hsum,<- Int.natAbs_mul];exact Int.natAbs_add_le _ _
  have h4:=Nat.mul_le_mul h1 hu;have h5:M<=M*(1+U) ^ r:=Nat.le_mul_of_pos_right _ (Nat.pow_pos (by omega));rw [Nat.pow_succ,<- Nat.mul_assoc,Nat.mul_add,Nat.mul_one];omega
theorem Cp {c:Nat->Int}{u:Int}{M U m:Nat} (hc:∀i,i<m->(c i).natAbs<=M) (hu:u.natAbs<=U):∀j i,i<m->(shS c u m j i).natAbs<=M*((1+U) ^ m) ^ j
 | 0,i,hi=>by rw [Nat.pow_zero,Nat.mul_one];exact hc i hi
 | j+1,i,hi=>by
  have ih:=Cp hc hu j;have hp:0<(1+U) ^ m:=Nat.pow_pos (by omega);rw [shS,Nat.pow_succ,<- Nat.mul_assoc];split
  ·exact Nat.le_trans (ih i hi) (Nat.le_mul_of_pos_right _ hp)
  ·refine Nat.le_trans (Co ih hu (m-i) i (by omega)) (Nat.mul_le_mul_left _ (Nat.pow_le_pow_right (by omega) (by omega)))
theorem Cq {z:Nat->Int}{kk M U V:Nat}{u:Int} (hz:∀i,i<n->(z i).natAbs<=M) (hu:u.natAbs<=U) (hd:d.natAbs<=V) (hk:kk<=2) (i:Nat) (hV:1<=V:=by omega) (h3:tl z n<=3:=by omega) (hi:i<tl z n:=by omega):(rbZ z n u d kk i).natAbs<=M*V ^ 2*((1+U) ^ 3) ^ 3*V ^ 2*V ^ 2:=by
 have hle:=bg z n;have pw:∀j,j<=2->(d ^ j).natAbs<=V ^ 2:=λj hj=>by rw [Int.natAbs_pow];exact Nat.le_trans (Nat.pow_le_pow_left hd j) (Nat.pow_le_pow_right hV hj)
 have h1:∀i,i<tl z n->(ou z n d i).natAbs<=M*V ^ 2:=λi hi=>by rw [ou,Int.natAbs_mul];exact Nat.mul_le_mul (hz i (by omega)) (pw _ (by omega))
 have h2:=Cp h1 hu (tl z n) i hi;have h4:((1+U) ^ tl z n) ^ tl z n<=((1+U) ^ 3) ^ 3:=Nat.le_trans (Nat.pow_le_pow_left (Nat.pow_le_pow_right (by omega) h3) _) (Nat.pow_le_pow_right (Nat.pow_pos (by omega)) h3);rw [rbZ,wk hi,Int.natAbs_mul,Int.natAbs_mul];exact Nat.mul_le_mul (Nat.mul_le_mul (Nat.le_trans h2 (Nat.mul_le_mul_left _ h4)) (pw _ (by omega))) (pw _ (by omega))
section
variable {x y:Nat->Int}{u:Int}{Lx Ly:List Int}
theorem sC.small (h:sC x y n m u d Lx Ly) (hx3:Lx.length<=3) (hy3:Ly.length<=3) (hu:u.natAbs<=30) (hd:d.natAbs<=6) (hbx:∀i,i<n->Bd (x i).natAbs 1) (hby:∀i,i<m->Bd (y i).natAbs 1):(∀i,i<Lx.length->Bd (cuX (qB Lx u d) (dB Lx Ly u d) i).natAbs 3)∧(∀i,i<Ly.length->Bd (cuX (qB Ly u d) (dB Lx Ly u d) i).natAbs 3):=by
 have lx:=jL h.hx;have ly:=jL h.hy;have hd':d≠0:=by have:=h.dp;omega
 obtain ⟨h1,h2,h3⟩:=Ce (kk:=2) (u:=u) h.dp h.hx h.hy rfl rfl rfl;generalize aT _ _=g at h1 h2 h3;have hg:0<g:=by
  rcases Nat.eq_zero_or_pos g with e | e
  ·rw [e] at h1;have:(0:Int)<d ^ 2:=Int.pow_pos h.dp;omega
  ·exact e
 have hle:∀{a b:Int},a=b*(g:Int)->b.natAbs<=a.natAbs:=λ{a b} e=>by rw [e,Int.natAbs_mul,Int.natAbs_natCast];exact Nat.le_mul_of_pos_right _ hg
 have fin:∀{a:Nat},a<=4294967295*6 ^ 2*((1+30) ^ 3) ^ 3*6 ^ 2*6 ^ 2->Bd a 3:=λh=>Nat.lt_of_le_of_lt h (by decide);have one:∀{a:Nat},Bd a 1->a<=4294967295:=λ{a} h=>by have:a<4294967296 ^ 1:=h;omega
 exact ⟨λi hi=>fin (Nat.le_trans (hle (h2 i hi)) (Cq (λi hi=>one (hbx i hi)) hu hd (Nat.le_refl 2) i)),λi hi=>fin (Nat.le_trans (hle (h3 i hi)) (Cq (λi hi=>one (hby i hi)) hu hd (Nat.le_refl 2) i))⟩
end
section
variable {x y:Nat->Int}{q:Rat}{Lx Ly:List Int}
end
theorem wC {q:Nat->Rat} (h:∀i,(q i).den=1):∀n,dnL q n=1
 | 0=>rfl
 | n+1=>by rw [dnL,wC h n,h];rfl
theorem sU (z y:Nat->Int) (l:Nat):∀j p,fH (λi=>((z i:Int):Rat)) (λi=>((y i:Int):Rat)) l j p=((ef z y l j p:Int):Rat)
 | 0,_=>rfl
 | j+1,p=>by
  rw [fH,ef,sU z y l j p,Rat.intCast_add];congr 1;split
  ·rw [Rat.intCast_mul]
  ·rfl
theorem Sg (z y:Nat->Int) (l j i p:Nat):dF (λi=>((z i:Int):Rat)) (λi=>((y i:Int):Rat)) l j i p=((eu z y l j i p:Int):Rat):=by
 rw [dF,eu,sU,Rat.intCast_add];congr 1;split
 ·rw [Rat.intCast_mul]
 ·rfl
section
variable {l K kz ky:Nat}{z y:Nat->Int}{P:List Int}
theorem Sj (hp:Im Φ p (Rw 4 (Zf z k) n)) (hq:Im Φ q (Rw 4 (Zf y l) m)) (hx:Φ x=λw v=>Rw 4 (λi w v=>ah w v ((ae P i:Int):Rat) K) P.length w v)
  (hy0:tl y m=m) (hz:∀i,i<n->Bd (z i).natAbs kz) (hy:∀i,i<m->Bd (y i).natAbs ky) (hP:mulL z n y m=P) (hn:n<=1000:=by omega) (hm:m<=1000:=by omega) (hk:k<=8000:=by omega) (hl:l<=8000:=by omega) (hK:K<=8000:=by omega) (hz0:tl z n=n:=by decide) (hKs:kz+ky+n+1<=K:=by omega) :
  aj Φ prog ⟨127,[.fact p,.fact q],[oS x],false⟩:=by
 have hl0:(if n=0∨m=0 then 0 else tl (λi=>(fH (λi=>((z i:Int):Rat)) (λi=>((y i:Int):Rat)) m n i).num) (n+m-1))=P.length:=by
  rw [<- hP,mulL,hz0,hy0];by_cases h:n=0∨m=0
  ·rw [if_pos h,if_pos h];rfl
  ·rw [if_neg h,if_neg h,dc];refine gw λh1=>?_;rw [sU];show ef z y m n (n+m-1-1)≠0;have h2:=DG (z:=z) (n:=n) (y:=y) (m:=m);have h3:=fG z n (by omega);have h4:=fG y m (by omega);rw [mulL,hz0,hy0,if_neg h,cU,if_pos (by omega)] at h2;rw [hz0] at h3;rw [hy0] at h4;rw [show n+m-1-1=n+m-2 by omega,h2];exact Int.mul_ne_zero h3 h4
 have hat:∀i,i<P.length->fH (λi=>((z i:Int):Rat)) (λi=>((y i:Int):Rat)) m n i=((ae P i:Int):Rat):=λi hi=>by
  rw [sU];congr 1;rw [<- hP,mulL,hz0,hy0] at hi ⊢;by_cases h:n=0∨m=0
  ·rw [if_pos h] at hi;exact absurd hi (Nat.not_lt_zero _)
  ·rw [if_neg h] at hi ⊢;rw [dc] at hi;rw [cU,if_pos hi]
 refine aU (Sm (Φ:=ph [Rw 4 (Zf z k) n,Rw 4 (Zf y l) m,λw v=>Rw 4 (λi w v=>ah w v (fH (λi=>((z i:Int):Rat)) (λi=>((y i:Int):Rat)) m n i) K) P.length w v]) (p:=0) (y:=1) (x:=2) (K:=K) ad ad rfl hk hl hK (λj i p hj hi=>?_) hl0)
  ⟨hp,hq,trivial⟩ ⟨⟨rfl,⟨rfl,rfl,λw v h=>?_⟩,trivial⟩,trivial⟩
 ·rw [Sg];exact ⟨(DH (c:=n) hz hy hj (Nat.le_refl _) hi p).more hKs,dV (by omega)⟩
 ·have h:Rw 4 (λi w v=>ah w v (fH (λi=>((z i:Int):Rat)) (λi=>((y i:Int):Rat)) m n i) K) P.length w v:=h;rw [hx];exact h.to λi _ _ hi h=>h.eq (hat i hi)
end
def aL (i r:Nat):Nat:=if r<i then r else r+1
def mnr (M:Nat->Nat->List Int) (i k r c:Nat):List Int:=M (aL i r) (aL k c)
def cj (A B:List Int):List Int:=aw (mk (max A.length B.length) λi=>ae A i+ae B i)
def cN (A:List Int):List Int:=mk A.length λi=>-(ae A i)
def adI (A B:List Int):List Int:=mulL (ae A) A.length (ae B) B.length
def kG (k:Nat) (A:List Int):List Int:=if k % 2=1 then cN A else A
def df (a d:Nat->List Int):Nat->List Int
 | 0=>[]
 | k+1=>cj (df a d k) (kG k (adI (a k) (d k)))
def adJ:Nat->(Nat->Nat->List Int)->List Int
 | 0,_=>[1]
 | n+1,M=>df (M 0) (λk=>adJ n (mnr M 0 k)) (n+1)
theorem qw  (h:ct A):ct (cN A):=λh0=>by rw [cN,dc] at h0 ⊢;rw [cU,if_pos (by omega)];have:=h h0;omega
theorem lI (A B:List Int):ct (cj A B):=jO _
theorem Sn (A B:List Int):(cj A B).length<=max A.length B.length:=by rw [cj,fF];exact bg _ _
theorem So (a d:Nat->List Int):∀k,ct (df a d k)
 | 0=>λh=>absurd h (Nat.lt_irrefl 0)
 | _+1=>lI _ _
theorem nc:∀n M,ct (adJ n M)
 | 0,_=>λ_=>(by decide:ae [1] 0≠0)
 | _+1,_=>So _ _ _
theorem DI  (h:ct A):tl (ae A) A.length=A.length:=gw h
theorem qz (A:List Int) (i:Nat):ae (cN A) i = -(ae A i):=by
 rw [cN,cU];split
 ·rfl
 ·rw [et (by omega)];rfl
structure EOk (c k:Nat) (A:List Int):Prop where
 len:A.length<=c
 nrm:ct A
 bd:∀i,Bd (ae A i).natAbs k
theorem EOk.more  (h:EOk c k A) (hc:c<=c') (hk:k<=k'):EOk c' k' A:=⟨Nat.le_trans h.len hc,h.nrm,λi=>(h.bd i).more hk⟩
theorem EOk.mul  (h:EOk c k A) (g:EOk c' k' B):EOk (c+c') (k+k'+c) (adI A B):=by
 refine ⟨?_,oC _ _ _ _,λi=>(NO (λi _=>h.bd i) (λi _=>g.bd i) i).more (by have:=h.len;omega)⟩;have h1:=h.len;have h2:=g.len;have e1:=DI h.nrm;have e2:=DI g.nrm;rcases Nat.eq_zero_or_pos A.length with h0 | h0
 ·rw [adI,mulL,e1,if_pos (.inl h0)];exact Nat.zero_le _
 ·rcases Nat.eq_zero_or_pos B.length with g0 | g0
  ·rw [adI,mulL,e1,e2,if_pos (.inr g0)];exact Nat.zero_le _
  ·rw [adI,DJ];omega
theorem EOk.add  (h:EOk c k A) (g:EOk c k B):EOk c (k+1) (cj A B):=by
 refine ⟨Nat.le_trans (Sn A B) (by have:=h.len;have:=g.len;omega),lI _ _,λi=>?_⟩;rw [cj,ig,cU];split
 ·exact (Bd.qA (h.bd i) (g.bd i)).le (Int.natAbs_add_le _ _)
 ·exact Nat.pow_pos (by omega)
theorem EOk.neg  (h:EOk c k A):EOk c k (cN A):=⟨by rw [cN,dc];exact h.len,qw h.nrm,λi=>by rw [qz,Int.natAbs_neg];exact h.bd i⟩
theorem EOk.oE  (h:EOk c k A) (j:Nat):EOk c k (kG j A):=by
 unfold kG;split
 ·exact h.neg
 ·exact h
theorem EOk.nil (c k:Nat):EOk c k []:=⟨Nat.zero_le _,λh=>absurd h (Nat.lt_irrefl 0),λ_=>by rw [et (Nat.zero_le _)];exact Nat.pow_pos (by omega)⟩
theorem wV {a d:Nat->List Int}{c k c' k' n:Nat} (ha:∀j,j<n->EOk c k (a j)) (hd:∀j,j<n->EOk c' k' (d j)):∀j,j<=n->EOk (c+c') (k+k'+c+j) (df a d j)
 | 0,_=>EOk.nil _ _
 | j+1,hj=>((wV ha hd j (by omega)).add ((((ha j (by omega)).mul (hd j (by omega))).oE j).more (Nat.le_refl _) (by omega))).more (Nat.le_refl _) (by omega)
def bD (c k:Nat):Nat->Nat
 | 0=>1
 | n+1=>bD c k n+k+c+(n+1)
theorem sV {c k:Nat}:∀(n:Nat) (M:Nat->Nat->List Int),(∀i j,i<n->j<n->EOk c k (M i j))->EOk (n*c+1) (bD c k n) (adJ n M)
 | 0,M,_=>⟨by rw [adJ];exact Nat.le_add_left 1 _,nc 0 M,λi=>by
  match i with
  | 0=>exact (show (1:Nat)<4294967296 ^ 1 by decide)
  | i+1=>exact Nat.pow_pos (by omega)⟩
 | n+1,M,h=>by have h2:=wV (n:=n+1) (a:=M 0) (d:=λk=>adJ n (mnr M 0 k)) (λj hj=>h 0 j (by omega) hj) (λj _=>sV n (mnr M 0 j) λ_ _ _ _=>h _ _ (by unfold aL;split <;> omega) (by unfold aL;split <;> omega)) (n+1) (Nat.le_refl _);exact h2.more (by rw [Nat.succ_mul];omega) (by rw [bD];omega)
section
variable {l K:Nat}
theorem Sp (hp:∀w v,Φ p w v->Rw 4 (λi w v=>ah w v ((ae A i:Int):Rat) k) A.length w v) (hx:Φ x=λw v=>Rw 4 (λi w v=>ah w v ((ae (cN A) i:Int):Rat) k) (cN A).length w v) (hA:A.length<=1000) (hk:k<=8000) (hk1:1<=k) (hn:ct A) (hb:∀i,Bd (ae A i).natAbs k) :
  aj Φ prog ⟨88,[.fact p],[oS x],false⟩:=by
 refine aU (wE (Φ:=ph [λw v=>Rw 4 (λi w v=>ah w v ((ae A i:Int):Rat) k) A.length w v,λw v=>Rw 4 (λi w v=>ah w v (-((ae A i:Int):Rat)) k) A.length w v]) (p:=0) (x:=1) (q:=λi=>((ae A i:Int):Rat)) ad rfl (hk:=hk) trivial (λi _=>⟨hb i,dV hk1⟩) (λh=>hn h)) ⟨hp,trivial⟩ ⟨⟨rfl,⟨rfl,rfl,λw v h=>?_⟩,trivial⟩,trivial⟩;rw [hx];rw [show (cN A).length=A.length from dc _ _];exact Rw.to (sz:=4) (n:=A.length) (F:=λi w v=>ah w v (-((ae A i:Int):Rat)) k) h λ_ _ _ _ h=>h.eq (by rw [qz,Rat.intCast_neg])
end
def vL (t:Rat) (A:List Int):Rat:=ev t A.length (ae A)
theorem kH  (hA:ct A) (hB:ct B) (h:∀t,vL t A=vL t B):A=B:=sW hA hB λi=>by
 have e:∀L:List Int,L.length<=max A.length B.length->∀t,ev t (max A.length B.length) (ae L)=vL t L:=λ_ hL _=>kD (λ_ hi=>et hi) hL;by_cases hi:i<max A.length B.length
 ·exact BQ (n:=max A.length B.length) (λ_=>by rw [e A (Nat.le_max_left _ _),e B (Nat.le_max_right _ _),h]) i hi
 ·rw [et (by omega),et (by omega)]
section
variable (t:Rat)(A B:List Int)
theorem oG:vL t (cj A B)=vL t A+vL t B:=by rw [vL,cj,Br,mO,kD (λ_ hi=>et hi) (Nat.le_max_left _ _),kD (λ_ hi=>et hi) (Nat.le_max_right _ _)];rfl
theorem lJ:vL t (cN A) = -vL t A:=by rw [vL,show (cN A).length=A.length from dc _ _,show ae (cN A)=λi=>(-1)*ae A i from funext λ_=>by rw [qz,Int.neg_one_mul],oH,vL];grind
theorem iP:vL t (adI A B)=vL t A*vL t B:=DK _ _ _ _ _
theorem Ss (k:Nat):vL t (kG k A)=if k % 2=1 then -vL t A else vL t A:=by
 unfold kG;split
 ·exact lJ t A
 ·rfl
end
def oJ (a d:Nat->Rat):Nat->Rat
 | 0=>0
 | k+1=>oJ a d k+(if k % 2=1 then -(a k*d k) else a k*d k)
def dT:Nat->(Nat->Nat->Rat)->Rat
 | 0,_=>1
 | n+1,a=>oJ (a 0) (λk=>dT n λr c=>a (aL 0 r) (aL k c)) (n+1)
theorem DL (t:Rat) (a d:Nat->List Int):∀k,vL t (df a d k)=oJ (λj=>vL t (a j)) (λj=>vL t (d j)) k
 | 0=>rfl
 | k+1=>by rw [df,oG,DL t a d k,Ss,iP,oJ]
theorem wW (t:Rat):∀n M,vL t (adJ n M)=dT n λi j=>vL t (M i j)
 | 0,_=>by simp [vL,adJ,dT,ev,ae];exact Rat.add_zero _
 | n+1,M=>by rw [adJ,DL,dT];simp only [wW t n,mnr]
section
variable (a:Nat->Nat->Rat)
theorem dT3:dT 3 a=a 0 0*(a 1 1*a 2 2-a 1 2*a 2 1)-a 0 1*(a 1 0*a 2 2-a 1 2*a 2 0)+a 0 2*(a 1 0*a 2 1-a 1 1*a 2 0):=by simp [dT,oJ,aL];grind
theorem Su:dT 4 a=a 0 0*dT 3 (λr c=>a (aL 0 r) (aL 0 c))-a 0 1*dT 3 (λr c=>a (aL 0 r) (aL 1 c))+a 0 2*dT 3 (λr c=>a (aL 0 r) (aL 2 c))-a 0 3*dT 3 (λr c=>a (aL 0 r) (aL 3 c)):=by rw [dT];simp only [oJ];simp;grind
end
def put {α:Type} (i:Nat) (x:α) (a:Nat->α) (r:Nat):α:=if r=i then x else a r
theorem four  (hn:n<=4) (hi:i<n):(n=1∨n=2∨n=3∨n=4)∧(i=0∨i=1∨i=2∨i=3):=by omega
section
variable {a:Nat->Nat->Rat}
end
theorem eU  (h:ct A):aw (mk A.length (ae A))=A:=sW (jO _) h λ_=>by
 rw [ig,cU];split
 ·rfl
 ·exact (et (by omega)).symm
theorem lK (t:Rat) (n:Nat) (z:Nat->Int):vL t (aw (mk n z))=ev t n z:=Br t n z
theorem sZ (t:Rat) (z:Nat->Int) (h:n<=m):ev t m (upto n z)=ev t n z:=by rw [kD (λ_ hi=>lC hi) h,mP]
theorem Sv (t:Rat) (n:Nat) (z:Nat->Int):ev t n (λi=>-(z i)) = -ev t n z:=by rw [show (λi=>-(z i))=λi=>(-1)*z i from funext λ_=>(Int.neg_one_mul _).symm,oH];grind
section
variable {z y:Nat->Int}
theorem Sw (hA:aw (mk n z)=A) (hB:aw (mk m y)=B):mulL z n y m=adI A B:=by subst hA hB;exact kH (oC _ _ _ _) (oC _ _ _ _) λt=>by rw [iP,lK,lK];exact DK t z n y m
theorem Sx (hA:aw (mk n z)=A) (hB:aw (mk m y)=B):aw (mk (max n m) λi=>upto n z i+upto m y i)=cj A B:=by subst hA hB;exact kH (jO _) (lI _ _) λt=>by rw [oG,lK,lK,lK,mO,sZ t z (Nat.le_max_left _ _),sZ t y (Nat.le_max_right _ _)]
theorem Sy (hA:aw (mk n z)=A) (hB:aw (mk m y)=B):aw (mk (max n m) λi=>upto n z i-upto m y i)=cj A (cN B):=by subst hA hB;refine kH (jO _) (lI _ _) λt=>?_;rw [oG,lJ,lK,lK,lK,show (λi=>upto n z i-upto m y i)=λi=>upto n z i + -(upto m y i) from funext λ_=>Int.sub_eq_add_neg,mO,Sv,sZ t z (Nat.le_max_left _ _),sZ t y (Nat.le_max_right _ _)]
end
section
variable {l K:Nat}{z y:Nat->Int}
theorem ta {c:Nat} (hp:Im Φ p (Rw 2 (If z k) n)) (hq:Im Φ q (Rw 2 (If y l) m)) (hA:aw (mk n z)=A) (hB:aw (mk m y)=B) (hx:Φ x=Rw 2 (Nf (ae (adI A B)) K) (adI A B).length) (hn:n<=c) (hm:m<=400000) (hb:∀i,Bd (ae (adI A B) i).natAbs K) (hc:c<=1000:=by omega) (hk:k<=100000:=by omega) (hl:l<=100000:=by omega) :
  aj Φ prog ⟨119,[.fact p,.fact q],[oS x],false⟩:=
 aU (Sz (Φ:=ph [λw v=>Rw 2 (λi w v=>aD w v (z i) k) n w v,λw v=>Rw 2 (λi w v=>aD w v (y i) l) m w v,λw v=>Rw 2 (λi w v=>ak w v (ae (adI A B) i) (k+l+c+1)) (adI A B).length w v]) (p:=0) (q:=1) (x:=2) ad ad rfl hn hm hc hk hl (Sw hA hB)) ⟨hp,hq,trivial⟩ ⟨⟨rfl,⟨rfl,rfl,λw v h=>by rw [hx];exact Rw.to (sz:=2) (n:=(adI A B).length) (F:=λi w v=>ak w v (ae (adI A B) i) (k+l+c+1)) h λi _ _ _ h=>ak.re h (hb i)⟩,trivial⟩,trivial⟩
theorem DM (hp:Im Φ p (Rw 2 (If z k) n)) (hq:Im Φ q (Rw 2 (If y l) m)) (hA:aw (mk n z)=A) (hB:aw (mk m y)=B) (hx:Φ x=Rw 2 (Nf (ae (cj A B)) K) (cj A B).length) (hn:n<=1000000) (hm:m<=1000000) (hb:∀i,Bd (ae (cj A B) i).natAbs K) (hk:k<=200000:=by omega) (hl:l<=200000:=by omega) :
  aj Φ prog ⟨118,[.fact p,.fact q],[oS x],false⟩:=
 aU (SA (Φ:=ph [λw v=>Rw 2 (λi w v=>aD w v (z i) k) n w v,λw v=>Rw 2 (λi w v=>aD w v (y i) l) m w v,λw v=>Rw 2 (λi w v=>ak w v (ae (cj A B) i) (k+l+1)) (cj A B).length w v]) (p:=0) (q:=1) (x:=2) ad ad rfl hn hm hk hl (Sx hA hB)) ⟨hp,hq,trivial⟩ ⟨⟨rfl,⟨rfl,rfl,λw v h=>by rw [hx];exact Rw.to (sz:=2) (n:=(cj A B).length) (F:=λi w v=>ak w v (ae (cj A B) i) (k+l+1)) h λi _ _ _ h=>ak.re h (hb i)⟩,trivial⟩,trivial⟩
theorem wX (hp:Im Φ p (Rw 2 (If z k) n)) (hq:Im Φ q (Rw 2 (If y l) m)) (hA:aw (mk n z)=A) (hB:aw (mk m y)=B) (hx:Φ x=λw v=>Rw 2 (λi w v=>ak w v (ae (cj A (cN B)) i) K) (cj A (cN B)).length w v) (hn:n<=1000000) (hm:m<=1000000) (hb:∀i,Bd (ae (cj A (cN B)) i).natAbs K) (hk:k<=200000:=by omega) (hl:l<=200000:=by omega):aj Φ prog ⟨47,[.fact p,.fact q],[oS x],false⟩:=aU (SB (Φ:=ph [λw v=>Rw 2 (λi w v=>aD w v (z i) k) n w v,λw v=>Rw 2 (λi w v=>aD w v (y i) l) m w v,λw v=>Rw 2 (λi w v=>ak w v (ae (cj A (cN B)) i) (k+l+1)) (cj A (cN B)).length w v]) (p:=0) (q:=1) (x:=2) ad ad rfl hn hm hk hl (Sy hA hB)) ⟨hp,hq,trivial⟩ ⟨⟨rfl,⟨rfl,rfl,λw v h=>by rw [hx];exact Rw.to (sz:=2) (n:=(cj A (cN B)).length) (F:=λi w v=>ak w v (ae (cj A (cN B)) i) (k+l+1)) h λi _ _ _ h=>ak.re h (hb i)⟩,trivial⟩,trivial⟩
end
def bZ (L:Nat->List Int) (K k:Nat) (w:World) (v:Value):Prop:=Rw 4 (λι w v=>ah w v ((ae (L k) ι:Int):Rat) K) (L k).length w v
theorem gY (L:Nat->List Int) (K k:Nat) (w:World) (s:Value) (h:bZ L K k w s):∃p n c,s = .slice p n c:=fD h
theorem iO (L:Nat->List Int) (K k:Nat):ee (bZ L K k):=AO (z0:=.bool true) (λ_ _ _ _ g h=>ah.kp h g) λ_ _ l h _=>by
 obtain ⟨p,n,c,b,p',n',c',b',e,-⟩:=h;obtain rfl:l = [.slice p n c,.bool b,.slice p' n' c',.bool b']:=by simpa using e
 exact ⟨_,rfl,λh=>by (cases h),λ_ _ h=>by cases h⟩
theorem Sf  (hx:Φ x=aK F i) (h:Im Φ q (F i)) (X:Nat->Prop) (w:World) (v:Value) (hv:(Arg.parts (.agg [.s]) [(0,1,q)]).ok Φ X w v):(Arg.fact x).ok Φ X w v:=λw1 hw=>by
 rw [hx];obtain ⟨⟨vs,rfl,h1⟩,h2⟩:=hv
 match vs,h1 with
 | [s],_=>exact ⟨s,rfl,h _ _ (h2 (0,1,q) (List.mem_singleton.2 rfl) w1 hw)⟩
section
variable {r K:Nat}{M:Nat->Nat->List Int}
end
theorem DF {c k:Nat} (hc:c<=100) (hk:k<=100):∀n,n<=4->bD c k n<=1+210*n
 | 0,_=>Nat.le_refl 1
 | n+1,h=>by have:=DF hc hk n (by omega);rw [bD];omega
def cF (z:Nat->Nat->Int) (ln:Nat->Nat) (K k:Nat) (w:World) (v:Value):Prop:=Rw 2 (If (z k) K) (ln k) w v
def bt (z:Nat->Nat->Nat->Int) (ln:Nat->Nat->Nat) (m K i:Nat) (w:World) (v:Value):Prop:=Rw 1 (aK (cF (z i) (ln i) K)) m w v
theorem slI (z:Nat->Nat->Int) (ln:Nat->Nat) (K k:Nat) (w:World) (s:Value) (h:cF z ln K k w s):∃p n c,s = .slice p n c:=fD h
theorem jP (z:Nat->Nat->Nat->Int) (ln:Nat->Nat->Nat) (m K i:Nat) (w:World) (s:Value) (h:bt z ln m K i w s):∃p n c,s = .slice p n c:=fD h
theorem sR (z:Nat->Nat->Int) (ln:Nat->Nat) (K k:Nat):ee (cF z ln K k):=AO (z0:=.slice none 0 0) (λ_ _ _ _ g h=>aD.kp h g) λ_ _ l h _=>by
 obtain ⟨b,s,X,e,-⟩:=h;obtain rfl:l = [.bool b,s]:=by simpa using e
 exact ⟨_,rfl,λh=>by (cases h),λ_ _ h=>by cases h⟩
theorem il (z:Nat->Nat->Nat->Int) (ln:Nat->Nat->Nat) (m K i:Nat):ee (bt z ln m K i):=MF (slI _ _ _) (sR _ _ _)
theorem jQ {P:Program}{f y:Nat}{ls:List Arg} (h:aj Φ P ⟨f,ls,[oS x],false⟩) (hy:Φ y=aK F i) (hF:Im Φ x (F i)):aj Φ P ⟨f,ls,[⟨.one .s,[(0,0,x),(0,2,y)]⟩],false⟩:=λX w vs hX ha=>(h X w vs hX ha).mono λe w' ⟨g,us,he,ho⟩=>⟨g,us,he,by
 match us,ho with
 | [u],⟨⟨h3,h4⟩,h5⟩=>
  refine ⟨⟨h3,λq hq w1 hw=>?_⟩,h5⟩;simp only [List.mem_cons,List.not_mem_nil,or_false] at hq;rcases hq with rfl | rfl
  ·exact h4 _ (List.mem_singleton.2 rfl) w1 hw
  ·obtain ⟨⟨p,n,c,rfl⟩,-⟩:=h3;show Φ y w1 _;rw [hy];exact ⟨_,rfl,hF _ _ (h4 (0,0,x) (List.mem_singleton.2 rfl) w1 hw)⟩⟩
theorem wU {a:Atom}{G:WP} (hx:Φ x=G) (h:∀w,G w (a.ev da)) (X:Nat->Prop) (w:World) (v:Value) (hv:(Arg.parts (.one (.lit a)) []).ok Φ X w v):(Arg.fact x).ok Φ X w v:=λw1 _=>by rw [hx];obtain ⟨h1,-⟩:=hv;obtain rfl:v=a.ev da:=h1.1;exact h w1
section
variable {n0:Nat}{z:Nat->Int}
end
section
variable {r y nl:Nat}{al:Nat->Nat->Bool}{xl:Nat->Nat->List Nat}{ml ln:Nat->Nat}{z:Nat->Nat->Int}
end
end Go.Proofs.YtlmanbjkkjfjgaaGreat.Sym
namespace Go.Proofs.YtlmanbjkkjfjgaaGreat.dlaw
open Go.Proofs.Tryz
open Go.ChangeShapes Go.WideShapes Go.ChangeAt Go.RowKit
open Go.Proofs.YtlmanbjkkjfjgaaGreat.Sym hiding val run start
section
variable {H:Type}{enc:TypeId×Value->H}
theorem wl {W:World}{base:Nat}{held:Bool}{fuel:Nat}{cs:List Value}{x:DataW H×List MemPlace} (hf:DataW.trod enc prog W base (λ_=>true) held fuel 25 cs=some x) :
  ∃(v:Value) (n:Nat) (a:Nat->Bool) (xs:Nat->List Nat),cs = [v]∧n<=9223372036854775807∧Rw 2 (λi w v=>aJ w v (a i) (xs i)) n W v:=by
 rcases Deep.open_slice underlying25 hf with ⟨hcs,_⟩ | ⟨a,len,cap,m,n,D,Pl,hcs,_,hl,hm,hmm,_,hx⟩
 ·exact ⟨_,0,λ_=>false,λ_=>[],hcs,by omega,none,0,rfl,Nat.le_refl _,λ_ _=>by omega⟩
 ·simp only [if_true] at hmm;have each:∀i,i<len->∃q:Bool×List Nat×List Value,q.2.2.length=2∧(∀(j:Nat) (u:Value),q.2.2[j]?=some u->W.cell? (a.add (i*2+j))=some u)∧aJ W (.agg q.2.2.toArray) q.1 q.2.1:=λi hi=>by
   obtain ⟨cs,h1,h2⟩:=hx i (by omega);rw [Tryz.cells24] at h1;obtain ⟨_,hlen,hcell⟩:=World.cells?_some h1
   match cs,hlen with
   | [c0,c1],_=>
    obtain ⟨b,xs,rfl,h5,h6⟩:=wm h2;refine ⟨(b,xs,[.bool b,c1]),rfl,λj u hj=>?_,⟨_,rfl,h5,h6⟩⟩;have hlt:=(List.getElem?_eq_some_iff.1 hj).1;have e:=hcell j (by simpa using hlt);rw [Deep.add_add] at e;rw [e];exact hj
  obtain ⟨q,hq⟩:=Deep.choose_lt each;refine ⟨_,len,λi=>(q i).1,λi=>(q i).2.1,hcs,?_,some a,cap,rfl,hl,λi hi=>?_⟩
  ·have:maxLen<=9223372036854775807:=by decide
   omega
  obtain ⟨h1,h2,h3⟩:=hq i hi;obtain ⟨b,off,spot⟩:=a;obtain ⟨g1,g2,-⟩:=hq 0 (by omega);have h0:=g2 0 ((q 0).2.2[0]'(by omega)) (List.getElem?_eq_getElem (by omega));have hspot:spot=none:=by simpa [Addr.add] using World.cell?_spot h0
  subst hspot;refine ⟨b,off,rfl,(q i).2.2,h1,λj u hj=>?_,h3⟩;have:=h2 j u hj;rw [Addr.add_lit] at this;rw [Nat.add_assoc];exact this
end
end Go.Proofs.YtlmanbjkkjfjgaaGreat.dlaw
