/- Values of curves -/
import Derived.Test.YtbjfgffibepmkaaGreatCurW
set_option maxRecDepth 100000
namespace Go.Proofs.YtbjfgffibepmkaaGreat.Sym
open Go.RowKit
variable {n:Nat}{X Y:List Int}
theorem yD {L:List Int} (h:cG L):an (mk L.length (ae L))=L:=by
 have:mk L.length (ae L)=L:=by
  apply List.ext_getElem (by rw [dC])
  intro i h1 h2
  simp [mk,ae,List.getD_eq_getElem?_getD,List.getElem?_eq_getElem h2]
 rw [this]
 exact IT h
section
variable {x y:Nat->Int}{m:Nat}{u d:Int}{Lx Ly:List Int}
end
def IU (x y:Nat->Int) (n m k:Nat) (X Y:List Int):List WP:=[Rw 2 (If x k) n,Rw 2 (If y k) m,Rw 2 (Nf (ae X) k) X.length,Rw 2 (Nf (ae Y) k) Y.length,Nw (1:Int) 2]
def IV:List Step:=[.base ⟨103,[0],[oS 2],false⟩,.base ⟨103,[1],[oS 3],false⟩,.base ⟨104,[.lit (.ci .i64 1)],[oI 4],false⟩]
def IW:List Out:=[oS 0,oS 1]
theorem cof {x y:Nat->Int}{m k:Nat} (hn:n<=1000000) (hm:m<=1000000) (hk:k<=500000) (hX:an (mk n x)=X) (hY:an (mk m y)=Y):aj (ph (IU x y n m k X Y)) Tryz.prog ⟨64,[0,1],[⟨.agg [.s,.s,.b,.s],[(0,1,2),(1,1,3),(2,2,4)]⟩],false⟩:=aQ IW [⟨.agg [.s,.s,.b,.s],[(0,1,2),(1,1,3),(2,2,4)]⟩] IV Tryz.func64 (by kernel_rfl) (lB (td (z:=x) (n:=n) (Rw.To 2 (If x k) n (fun _ _ _ _ h=>h)) rfl hX) (lB (td (z:=y) (n:=m) (Rw.To 2 (If y k) m (fun _ _ _ _ h=>h)) rfl hY) (lB (yE (z:=1) rfl rfl) aD)))
  (aM [.fact 0 (.one (.s)),.fact 1 (.one (.s))] ⟨Rw.Is 2 (If x k) n,Rw.Is 2 (If y k) m,trivial⟩) aV
section
variable {Φ:PH}{p q p0 p1 p2 m k:Nat}{x y:Nat->Int}
theorem yF (hp:∀w v,Φ p w v->Rw 2 (If x k) n w v) (hq:∀w v,Φ q w v->Rw 2 (If y k) m w v) (h0:Φ p0=Rw 2 (Nf (ae X) k) X.length) (h1:Φ p1=Rw 2 (Nf (ae Y) k) Y.length) (h2:Φ p2=Nw (1:Int) 2) (hX:an (mk n x)=X) (hY:an (mk m y)=Y) (hn:n<=1000000:=by omega) (hm:m<=1000000:=by omega) (hk:k<=500000:=by omega) :
  aj Φ Tryz.prog ⟨64,[.fact p,.fact q],[⟨.agg [.s,.s,.b,.s],[(0,1,p0),(1,1,p1),(2,2,p2)]⟩],false⟩:=
 aT (cof (x:=x) (y:=y) hn hm hk hX hY) ⟨hp,hq,trivial⟩ ⟨⟨rfl,⟨rfl,rfl,fun _ _ h=>h0▸h⟩,⟨rfl,rfl,fun _ _ h=>h1▸h⟩,⟨rfl,rfl,fun _ _ h=>h2▸h⟩,trivial⟩,trivial⟩
end
section
variable {Φ:PH}{p0 p1 p2 q a b nx ny k kt kn kd:Nat}{x y:Nat->Int}{d:Int}{t vx vy:Rat}
end
section
variable {Φ:PH}{p0 p1 q nx ny k:Nat}{x y:Nat->Int}
end
def IX (a b:Int) (X Y:List Int):List WP:=[Ni a,Ni b,fun w v=>Rw 1 (fun i _ v=>v = .agg #[.int .i64 (ae [a] i)]) 1 w v,Rw 2 (Nf (ae X) 2) X.length,fun w v=>Rw 1 (fun i _ v=>v = .agg #[.int .i64 (ae [b] i)]) 1 w v,Rw 2 (Nf (ae Y) 2) Y.length,Rw 2 (Nf (ae X) 2) X.length,Rw 2 (Nf (ae Y) 2) Y.length,Nw (1:Int) 2]
def IY:List Step:=[.base ⟨0,[.any,0],[oS 2],.fresh [] (cu 49 1)⟩,.base ⟨65,[2],[oS 3],false⟩,.base ⟨0,[.any,1],[oS 4],.fresh [] (cu 49 1)⟩,.base ⟨65,[4],[oS 5],false⟩,.base ⟨64,[3,5],[⟨.agg [.s,.s,.b,.s],[(0,1,6),(1,1,7),(2,2,8)]⟩],false⟩]
def IZ:List Out:=[oN 0,oN 1]
theorem Ja {a b:Int} (hza:∀i,-9223372036854775808<=ae [a] i∧ae [a] i<=9223372036854775807) (hzb:∀i,-9223372036854775808<=ae [b] i∧ae [b] i<=9223372036854775807) (hX:an (mk 1 (ae [a]))=X) (hY:an (mk 1 (ae [b]))=Y) (hXl:X.length<=1) (hYl:Y.length<=1) (hXX:an (mk X.length (ae X))=X) (hYY:an (mk Y.length (ae Y))=Y):aj (ph (IX a b X Y)) Tryz.prog ⟨26,[0,1],[⟨.agg [.s,.s,.b,.s],[(0,1,6),(1,1,7),(2,2,8)]⟩],false⟩:=aQ IZ [⟨.agg [.s,.s,.b,.s],[(0,1,6),(1,1,7),(2,2,8)]⟩] IY Tryz.func26 (by kernel_rfl) (lB (eP (ps:=[0]) (sz:=1) (n:=1) (F:=(fun i _ v=>v = .agg #[.int .i64 (ae [a] i)])) (zc:=.one (.ci .i64 0)) Tryz.underlying49 rfl (rj ad) rfl) (lB (te (z:=(ae [a])) (n:=1) (zs:=X) ad rfl hza hX) (lB (eP (ps:=[1]) (sz:=1) (n:=1) (F:=(fun i _ v=>v = .agg #[.int .i64 (ae [b] i)])) (zc:=.one (.ci .i64 0)) Tryz.underlying49 rfl (rj ad) rfl) (lB (te (z:=(ae [b])) (n:=1) (zs:=Y) ad rfl hzb hY) (lB (yF (x:=(ae X)) (y:=(ae Y)) (k:=2) (Rw.To 2 (Nf (ae X) 2) X.length (fun _ _ _ _ h=>ak.i h)) (Rw.To 2 (Nf (ae Y) 2) Y.length (fun _ _ _ _ h=>ak.i h)) rfl rfl rfl hXX hYY) aD)))))
  (aM [.fact 0 (.one (.i)),.fact 1 (.one (.i))] ⟨fun _ _ h=>h▸dc _,fun _ _ h=>h▸dc _,trivial⟩) (fun _ _ _ h=>h)
section
variable {Φ:PH}{p q p0 p1 p2:Nat}{a b:Int}
theorem pU (hp:∀w v,Φ p w v->v = .int .i64 a) (hq:∀w v,Φ q w v->v = .int .i64 b) (h0:Φ p0=Rw 2 (Nf (ae X) 2) X.length) (h1:Φ p1=Rw 2 (Nf (ae Y) 2) Y.length) (h2:Φ p2=Nw (1:Int) 2) (ha1:-9223372036854775808<=a:=by decide) (ha2:a<=9223372036854775807:=by decide) (hb1:-9223372036854775808<=b:=by decide) (hb2:b<=9223372036854775807:=by decide) (hX:an (mk 1 (ae [a]))=X:=by decide) (hY:an (mk 1 (ae [b]))=Y:=by decide) :
  aj Φ Tryz.prog ⟨26,[.fact p,.fact q],[⟨.agg [.s,.s,.b,.s],[(0,1,p0),(1,1,p1),(2,2,p2)]⟩],false⟩:=
 aT (Ja (qh fun x hx=>by simp at hx;omega) (qh fun x hx=>by simp at hx;omega) hX hY (by rw [<- hX,eQ];exact bi _ _) (by rw [<- hY,eQ];exact bi _ _) (yD (hX▸gX _)) (yD (hY▸gX _))) ⟨hp,hq,trivial⟩ ⟨⟨rfl,⟨rfl,rfl,fun _ _ h=>h0▸h⟩,⟨rfl,rfl,fun _ _ h=>h1▸h⟩,⟨rfl,rfl,fun _ _ h=>h2▸h⟩,trivial⟩,trivial⟩
end
section
variable {Φ:PH}{p q r p0 p1 p2 k:Nat}{A B:List Int}{C D:Int}{qx qy:Nat->Rat}
end
theorem yG {c:Nat->Int}{u:Int}{M U m:Nat} (hc:∀i,i<m->(c i).natAbs<=M) (hu:u.natAbs<=U):∀r i,i+r<=m->(hsum c u r i).natAbs<=M*(1+U) ^ r
 | 0,_,_=>Nat.zero_le _
 | r+1,i,h=>by
  have h1:=yG hc hu r (i+1) (by omega)
  have h2:=hc i (by omega)
  have h3:(hsum c u (r+1) i).natAbs<=(c i).natAbs+(hsum c u r (i+1)).natAbs*u.natAbs:=by
   rw [hsum,<- Int.natAbs_mul];exact Int.natAbs_add_le _ _
  have h4:=Nat.mul_le_mul h1 hu
  have h5:M<=M*(1+U) ^ r:=Nat.le_mul_of_pos_right _ (Nat.pow_pos (by omega))
  rw [Nat.pow_succ,<- Nat.mul_assoc,Nat.mul_add,Nat.mul_one]
  omega
theorem yH {c:Nat->Int}{u:Int}{M U m:Nat} (hc:∀i,i<m->(c i).natAbs<=M) (hu:u.natAbs<=U):∀j i,i<m->(shS c u m j i).natAbs<=M*((1+U) ^ m) ^ j
 | 0,i,hi=>by rw [Nat.pow_zero,Nat.mul_one];exact hc i hi
 | j+1,i,hi=>by
  have ih:=yH hc hu j
  have hp:0<(1+U) ^ m:=Nat.pow_pos (by omega)
  rw [shS,Nat.pow_succ,<- Nat.mul_assoc]
  split
  ·exact Nat.le_trans (ih i hi) (Nat.le_mul_of_pos_right _ hp)
  ·refine Nat.le_trans (yG ih hu (m-i) i (by omega)) (Nat.mul_le_mul_left _ (Nat.pow_le_pow_right (by omega) (by omega)))
theorem yI {z:Nat->Int}{kk M U V:Nat}{u d:Int} (hz:∀i,i<n->(z i).natAbs<=M) (hu:u.natAbs<=U) (hd:d.natAbs<=V) (hk:kk<=2) (i:Nat) (hV:1<=V:=by omega) (h3:tl z n<=3:=by omega) (hi:i<tl z n:=by omega):(rbZ z n u d kk i).natAbs<=M*V ^ 2*((1+U) ^ 3) ^ 3*V ^ 2*V ^ 2:=by
 have hle:=bi z n
 have pw:∀j,j<=2->(d ^ j).natAbs<=V ^ 2:=fun j hj=>by
  rw [Int.natAbs_pow]
  exact Nat.le_trans (Nat.pow_le_pow_left hd j) (Nat.pow_le_pow_right hV hj)
 have h1:∀i,i<tl z n->(me z n d i).natAbs<=M*V ^ 2:=fun i hi=>by
  rw [me,Int.natAbs_mul]
  exact Nat.mul_le_mul (hz i (by omega)) (pw _ (by omega))
 have h2:=yH h1 hu (tl z n) i hi
 have h4:((1+U) ^ tl z n) ^ tl z n<=((1+U) ^ 3) ^ 3:=Nat.le_trans (Nat.pow_le_pow_left (Nat.pow_le_pow_right (by omega) h3) _) (Nat.pow_le_pow_right (Nat.pow_pos (by omega)) h3)
 rw [rbZ,sU hi,Int.natAbs_mul,Int.natAbs_mul]
 exact Nat.mul_le_mul (Nat.mul_le_mul (Nat.le_trans h2 (Nat.mul_le_mul_left _ h4)) (pw _ (by omega))) (pw _ (by omega))
section
variable {x y:Nat->Int}{m:Nat}{u d:Int}{Lx Ly:List Int}
theorem pT.small (h:pT x y n m u d Lx Ly) (hx3:Lx.length<=3) (hy3:Ly.length<=3) (hu:u.natAbs<=30) (hd:d.natAbs<=6) (hbx:∀i,i<n->Bd (x i).natAbs 1) (hby:∀i,i<m->Bd (y i).natAbs 1):(∀i,i<Lx.length->Bd (cuX (qB Lx u d) (dB Lx Ly u d) i).natAbs 3)∧(∀i,i<Ly.length->Bd (cuX (qB Ly u d) (dB Lx Ly u d) i).natAbs 3):=by
 have lx:=iB h.hx
 have ly:=iB h.hy
 have hd':d≠0:=by have:=h.dp;omega
 obtain ⟨h1,h2,h3⟩:=yx (kk:=2) (u:=u) h.dp h.hx h.hy rfl rfl rfl
 generalize bp _ _=g at h1 h2 h3
 have hg:0<g:=by
  rcases Nat.eq_zero_or_pos g with e | e
  ·rw [e] at h1
   have:(0:Int)<d ^ 2:=Int.pow_pos h.dp
   omega
  ·exact e
 have hle:∀{a b:Int},a=b*(g:Int)->b.natAbs<=a.natAbs:=fun {a b} e=>by
  rw [e,Int.natAbs_mul,Int.natAbs_natCast]
  exact Nat.le_mul_of_pos_right _ hg
 have fin:∀{a:Nat},a<=4294967295*6 ^ 2*((1+30) ^ 3) ^ 3*6 ^ 2*6 ^ 2->Bd a 3:=fun h=>Nat.lt_of_le_of_lt h (by decide)
 have one:∀{a:Nat},Bd a 1->a<=4294967295:=fun {a} h=>by
  have:a<4294967296 ^ 1:=h
  omega
 exact ⟨fun i hi=>fin (Nat.le_trans (hle (h2 i hi)) (yI (fun i hi=>one (hbx i hi)) hu hd (Nat.le_refl 2) i)),fun i hi=>fin (Nat.le_trans (hle (h3 i hi)) (yI (fun i hi=>one (hby i hi)) hu hd (Nat.le_refl 2) i))⟩
end
section
variable {x y:Nat->Int}{m:Nat}{q:Rat}{Lx Ly:List Int}
end
theorem tf {q:Nat->Rat} (h:∀i,(q i).den=1):∀n,dnL q n=1
 | 0=>rfl
 | n+1=>by rw [dnL,tf h n,h];rfl
end Go.Proofs.YtbjfgffibepmkaaGreat.Sym
