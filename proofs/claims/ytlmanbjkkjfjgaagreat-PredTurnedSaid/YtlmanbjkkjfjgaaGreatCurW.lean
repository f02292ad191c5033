/- Derivatives of products -/
import Derived.Test.YtlmanbjkkjfjgaaGreatDivZ
import Derived.Deep.Strs
set_option maxRecDepth 100000
namespace Go.Proofs.YtlmanbjkkjfjgaaGreat.Sym
open Go.Proofs.Tryz
open Go.RowKit
variable {K N i j k l m n:Nat}{f z:Nat->Int}{w:World}{v:Value}{q r:Nat->Rat}{F:PH}{a:Nat->Bool}{xs:Nat->List Nat}
theorem JS:∀(n:Nat) (z:Nat->Int),(∀x:Int,1<=x->hV x 1 n z=0)->∀i,i<n->z i=0
 | 0,_,_,i,hi=>by omega
 | n+1,z,h,i,hi=>by
  have h0:z 0=0:=by have h1:=h ((z 0).natAbs+1) (by omega);simp only [hV,Int.one_pow,Int.mul_one] at h1;have h2:((z 0).natAbs+1:Int)∣z 0:=⟨-hV ((z 0).natAbs+1) 1 n λi=>z (i+1),by rw [Int.mul_neg];omega⟩;exact Int.eq_zero_of_dvd_of_natAbs_lt_natAbs h2 (by omega)
  cases i with
  | zero=>exact h0
  | succ i=>
   refine JS n (λi=>z (i+1)) (λx hx=>?_) i (by omega);have h1:=h x hx;simp only [hV,Int.one_pow,Int.mul_one] at h1;rw [h0,Int.zero_add] at h1;rcases Int.mul_eq_zero.1 h1 with h2 | h2
   ·omega
   ·exact h2
theorem BQ {y:Nat->Int} (h:∀x:Rat,ev x n z=ev x n y) (i:Nat) (hi:i<n):z i=y i:=by
 have h0:=JS n (λi=>z i + -1*y i) (λx _=>by
  have h1:=HP (u:=x) (d:=1) (x:=(x:Rat)) (by push_cast;grind) n (λi=>z i + -1*y i);rw [mO n z (λi=>-1*y i),oH (-1) n y,h (x:Rat)] at h1;have h2:((hV x 1 n (λi=>z i + -1*y i):Int):Rat)=0:=by push_cast at h1;rw [Rat.mul_one] at h1;rw [h1];grind
  exact_mod_cast h2) i hi
 have h1:z i + -1*y i=0:=h0;omega
theorem aeK:aH 0 1=0:=by decide +kernel
def fH (q r:Nat->Rat) (l:Nat):Nat->Nat->Rat
 | 0,_=>0
 | j+1,p=>fH q r l j p+(if j<=p∧p<j+l then q j*r (p-j) else 0)
def dF (q r:Nat->Rat) (l j i p:Nat):Rat:=fH q r l j p+(if j<=p∧p<j+i then q j*r (p-j) else 0)
section
variable {p:Nat}
theorem aeL:dF q r l j 0 p=fH q r l j p:=by unfold dF;rw [if_neg (by omega),Rat.add_zero]
theorem aeM (h:p≠j+i):dF q r l j (i+1) p=dF q r l j i p:=by unfold dF;split <;> split <;> first | rfl | omega
theorem aeN:dF q r l j i (j+i)+q j*r i=dF q r l j (i+1) (j+i):=by unfold dF;rw [if_neg (by omega),if_pos (by omega),show j+i-j=i by omega,Rat.add_zero]
end
theorem aeO.kp {w1:World} (h:i<j->ah w v 0 K) (g:Kp w w1):i<j->ah w1 v 0 K:=λhi=>ah.kp (h hi) g
def nL (q r:Nat->Rat) (n m k l K:Nat):List WP:=[Rw 4 (Df q k) n,Rw 4 (Df r l) m,Nz n,Nz m,Nz n,Nz m,Nz (n+m),Nz (n+m-1),λw v=>aA 4 57 (λι w v=>ι<0->ah w v 0 K) (n+m-1) w v,fb (n+m-1),Nz (n+m-1),aA 4 57 (Df (fH q r m 0) K) (n+m-1),Nz n,aA 4 57 (Df (fH q r m n) K) (n+m-1),Rw 4 (Df (fH q r m n) K) (tl (λι=>(fH q r m n ι).num) (n+m-1))]
def aeP (q r:Nat->Rat) (n m k l K:Nat) (j i:Nat):List WP:=[Nz i,aA 4 57 (Df (dF q r m j i) K) (n+m-1),λ_ _=>True,Nz (j+i),Nz (j+i),At 4,Ptr 4 (Dw (dF q r m j i (j+i)) K),Dw (dF q r m j i (j+i)) K,Ptr 4 (Dw (q j) k),Dw (q j) k,Ptr 4 (Dw (r i) l),Dw (r i) l,Dw ((q j)*(r i)) (2*(k+l)+2),Jw (((q j)*(r i)).num) (2*(k+l)+2),Jw (((q j)*(r i)).den:Int) (2*(k+l)+2),Dw ((dF q r m j i (j+i))+((q j)*(r i))) (3*(K+(2*(k+l)+2))+3),Jw (((dF q r m j i (j+i))+((q j)*(r i))).num) (3*(K+(2*(k+l)+2))+3),Jw (((dF q r m j i (j+i))+((q j)*(r i))).den:Int) (3*(K+(2*(k+l)+2))+3),At 4,Ptr 4 (Dw (dF q r m j i (j+i)) K),aA 4 57 (Df (dF q r m j (i+1)) K) (n+m-1),Nz (i+1)]
def JT:bp:=⟨[0,1,4,7,9,10,11,12,13,14,15,16,17,18,19,20,21,22,23,24,25,26,27,34,35,36,37,38,39,40],[(.slot 41,.i),(.slot 5,.s)],[(.one 0,21),(.one 1,.cM [1] 22),(.one 1,.lo 1)],[.closed (.one (Ai 0)),.frm 16,.frm 0],21,[(22,19)]⟩
def JU:List Step:=[bQ [21,18] oT (am .lss),bQ [15,21] [oN 24] (am .add),bQ [15,21] [oN 25] (am .add),.base ⟨0,[22,25],[oP 27],.joint [1] 26 (adK 38)⟩,.base ⟨0,[27],[oQ 28],.gI [1] (aQ 57)⟩,bQ [0,15] [oP 29] (adK 38),bQ [29] [oQ 30] (aQ 57),bQ [1,21] [oP 31] (adK 38),bQ [31] [oQ 32] (aQ 57),
   cB 95 [30,32] [⟨.agg [.s,.b,.s,.b],[(0,0,33),(0,2,34),(2,2,35)]⟩],.base ⟨151,[28,33],[⟨.agg [.s,.b,.s,.b],[(0,0,36),(0,2,37),(2,2,38)]⟩],.dR [1] false⟩,.base ⟨0,[22,24],[oP 40],.joint [1] 39 (adK 38)⟩,.base ⟨0,[22,24,.any,36],[oS 41],.put [] 1 0 39 (fE 57 (.tmp 44) (.tmp 47))⟩,bQ [21,.lit (Ai 1)] [oN 42] (am .add)]
def aeQ:List Step:=[bQ [21,18] oF (am .lss)]
def zp (q r:Nat->Rat) (n m K:Nat) (j:Nat):List WP:=[Nz j,aA 4 57 (Df (fH q r m j) K) (n+m-1),λ_ _=>True,Nz m,aA 4 57 (Df (dF q r m j m) K) (n+m-1),Nz (j+1)]
def JV:bp:=⟨[0,1,4,9,10,11,12,13,14,15,16,17,18,19,20,21,22,23,24,25,26,27,34,35],[(.slot 36,.i),(.slot 5,.s)],[(.one 0,15),(.one 1,.cM [1] 16),(.one 1,.lo 1)],[.closed (.one (Ai 0)),.frm 11,.frm 0],15,[(16,13)]⟩
def JW:List Step:=[bQ [15,12] oT (am .lss),bQ [1] [oN 18] (aC 38),.loop JT [(JU,[.frm 42,.frm 41,.frm 0])] aeQ,bQ [15,.lit (Ai 1)] [oN 20] (am .add)]
def aeR:List Step:=[bQ [15,12] oF (am .lss)]
def aeS (n m K:Nat) (j:Nat):List WP:=[Nz j,λw v=>aA 4 57 (λι w v=>ι<j->ah w v 0 K) (n+m-1) w v,λ_ _=>True,Dw (aH 0 1) 6,Jw ((aH 0 1).num) 6,Jw ((aH 0 1).den:Int) 6,At 4,λw v=>Ptr 4 (λw v=>j<j->ah w v 0 K) w v,λw v=>aA 4 57 (λι w v=>ι<(j+1)->ah w v 0 K) (n+m-1) w v,Nz (j+1)]
def JX:bp:=⟨[0,1,4,9,10,11,12,13,14,15,16,17,18,19,20,21,22,23,24,25],[(.slot 26,.i),(.slot 5,.s)],[(.one 0,15),(.one 1,.cM [1] 16),(.one 1,.lo 1)],[.closed (.one (Ai 0)),.frm 8,.frm 0],15,[(16,11)]⟩
def JY:List Step:=[bQ [15,10] oT (am .lss),
   cB 150 [] [⟨.agg [.s,.b,.s,.b],[(0,0,18),(0,2,19),(2,2,20)]⟩],.base ⟨0,[16,15],[oP 22],.joint [1] 21 (adK 38)⟩,.base ⟨0,[16,15,.any,18],[oS 23],.put [] 1 0 21 (fE 57 (.tmp 29) (.tmp 30))⟩,bQ [15,.lit (Ai 1)] [oN 24] (am .add)]
def aeT:List Step:=[bQ [15,10] oF (am .lss)]
def aeU:List Step:=[bQ [0] [oN 2] (aC 38),bQ [2,.lit (Ai 0)] oF (am .eql),bQ [1] [oN 3] (aC 38),bQ [3,.lit (Ai 0)] oF (am .eql),bQ [0] [oN 4] (aC 38),bQ [1] [oN 5] (aC 38),bQ [4,5] [oN 6] (am .add),bQ [6,.lit (Ai 1)] [oN 7] (am .sub),.base ⟨0,[7,7],[oS 8],.loose [] 1 0 (ga 38)⟩,.freed (.one (.s 16 0)) 8 9,bQ [9] [oN 10] (aC 38),.loop JX [(JY,[.frm 24,.frm 23,.frm 0])] aeT,bQ [0] [oN 12] (aC 38),.loop JV [(JW,[.frm 20,.frm 19,.frm 0])] aeR,.base ⟨42,[13],[oS 14],.dR [1] false⟩]
def aeV:List Out:=[oS 0,oS 1]
theorem aeW  (hn:n<=400000) (hm:m<=400000) (hk:k<=8000) (hl:l<=8000) (hK:K<=8000) (hK1:1<=K) (h1:0<n) (h2:0<m) (hB:∀j i p,j<n->i<=m->Bd (dF q r m j i p).num.natAbs K∧Bd (dF q r m j i p).den K):aj (ph (nL q r n m k l K)) prog ⟨127,[0,1],[oS 14],false⟩:=adL aeV [oS 14] aeU func127 (by kernel_rfl) (lB (aM (F:=(Df q k)) underlying38 ad rfl) (lB (iL ad) (lB (aM (F:=(Df r l)) underlying38 ad rfl) (lB (iL ad) (lB (aM (F:=(Df q k)) underlying38 ad rfl) (lB (aM (F:=(Df r l)) underlying38 ad rfl) (lB (jG ad ad rfl) (lB (cO ad rfl) (lB (vE (n:=(n+m-1)) (F:=(λι w v=>ι<0->ah w v 0 K)) ad (λ_ _ h=>absurd h (by omega)) rfl) (gu (mM (e:=57) (sz:=4) (n:=(n+m-1)) (F:=(λι w v=>ι<0->ah w v 0 K)) ad rfl) (lB (eH (n:=(n+m-1)) underlying38 ad rfl) (bN (counted (n+m-1) (λj=>ph (nL q r n m k l K ++ aeS n m K j)) (λ_=>0) (λ_ p hp=>bO (show p<(nL q r n m k l K).length from hp)) ⟨λ_=>rfl,ad,bI,trivial⟩ (λj _=>by
   skip
   exact ⟨(JY,[.frm 24,.frm 23,.frm 0]),rfl,⟨ad,ad,bI,trivial⟩,(lB (bK ad ad) (lB (qj rfl rfl rfl) (lB (fO (i:=j) (sz:=4) (n:=(n+m-1)) (F:=(λι w v=>ι<j->ah w v 0 K)) underlying38 (λ_ _ h=>aA.arr h) ad rfl rfl) (lB (ij (i:=j) (n:=(n+m-1)) (F:=(λι w v=>ι<j->ah w v 0 K)) (F':=(λι w v=>ι<(j+1)->ah w v 0 K)) (G:=Dw (aH 0 1) 6) (.tmp 29) (.tmp 30) ad ad ad rfl (λ_ _ h=>ah.cells h) (λ_ _ _ _ g h=>aeO.kp h g) (λ_ _ _ g h=>ah.kp h g) (λ_ _ _ _ h _=>h (by omega)) (λ_ _ h _=>ah.dm (h.eq aeK) (Nat.pow_pos (by omega)) (dV hK1)) rfl) (lB (ch ad rfl) au)))))⟩) (lB (tlF ad ad) au)
   (poC (λ_ _ h=>(λh=>aA.to (sz:=4) (e:=57) (n:=(n+m-1)) (F:=(λι w v=>ι<(n+m-1)->ah w v 0 K)) (G:=(Df (fH q r m 0) K)) h λ_ _ _ ha h=>h ha) h) poN)) (lB (aM (F:=(Df q k)) underlying38 ad rfl) (bN (counted n (λj=>ph (nL q r n m k l K ++ zp q r n m K j)) (λ_=>0) (λ_ p hp=>bO (show p<(nL q r n m k l K).length from hp)) ⟨λ_=>rfl,ad,bI,trivial⟩ (λj _=>by
   skip
   exact ⟨(JW,[.frm 20,.frm 19,.frm 0]),rfl,⟨ad,ad,bI,trivial⟩,(lB (bK ad ad) (lB (aM (F:=(Df r l)) underlying38 ad rfl) (bN (counted m (λi=>ph ((nL q r n m k l K ++ zp q r n m K j) ++ aeP q r n m k l K j i)) (λ_=>0) (λ_ p hp=>bO (show p<(nL q r n m k l K ++ zp q r n m K j).length from hp)) ⟨λ_=>rfl,λ_ _ h=>aA.to (sz:=4) (e:=57) (n:=(n+m-1)) (F:=(λι w v=>ah w v (fH q r m j ι) K)) (G:=(λι w v=>ah w v (dF q r m j 0 ι) K)) h λ_ _ _ _ h=>by rw [aeL];exact h,bI,trivial⟩ (λi _=>by
   skip
   exact ⟨(JU,[.frm 42,.frm 41,.frm 0]),rfl,⟨ad,ad,bI,trivial⟩,(lB (bK ad ad) (lB (jG ad ad rfl) (lB (jG ad ad rfl) (lB (fO (i:=(j+i)) (sz:=4) (n:=(n+m-1)) (F:=(Df (dF q r m j i) K)) underlying38 (λ_ _ h=>aA.arr h) ad rfl rfl) (lB (bT (sz:=4) (F:=Dw (dF q r m j i (j+i)) K) ad (λ_ _ _ g h=>ah.kp h g) (λ_ _ h=>ah.is h) rfl) (lB (bw (i:=j) (F:=(Df q k)) underlying38 ad ad rfl) (lB (bT (sz:=4) (F:=Dw (q j) k) ad (λ_ _ _ g h=>ah.kp h g) (λ_ _ h=>ah.is h) rfl) (lB (bw (i:=i) (F:=(Df r l)) underlying38 ad ad rfl) (lB (bT (sz:=4) (F:=Dw (r i) l) ad (λ_ _ _ g h=>ah.kp h g) (λ_ _ h=>ah.is h) rfl) (lB (wP tS tS rfl rfl rfl rfl) (lB (eS [1] (Cy tS tS rfl rfl rfl rfl)) (lB (fO (i:=(j+i)) (sz:=4) (n:=(n+m-1)) (F:=(Df (dF q r m j i) K)) underlying38 (λ_ _ h=>aA.arr h) ad rfl rfl) (lB (ij (i:=(j+i)) (n:=(n+m-1)) (F:=(λι w v=>ah w v (dF q r m j i ι) K)) (F':=(λι w v=>ah w v (dF q r m j (i+1) ι) K)) (G:=Dw ((dF q r m j i (j+i))+((q j)*(r i))) (3*(K+(2*(k+l)+2))+3)) (.tmp 44) (.tmp 47) ad ad ad rfl (λ_ _ h=>ah.cells h) (λ_ _ _ _ g h=>ah.kp h g) (λ_ _ _ g h=>ah.kp h g) (λ_ _ _ ha h=>by rw [aeM ha];exact h) (λ_ _ h=>ah.dm (h.eq aeN) (hB j (i+1) (j+i) (by omega) (by omega)).1 (hB j (i+1) (j+i) (by omega) (by omega)).2) rfl) (lB (ch ad rfl) au))))))))))))))⟩) (lB (tlF ad ad) au)
   (poC (λ_ _ h=>(λh=>h) h) poN)) (lB (ch ad rfl) au))))⟩) (lB (tlF ad ad) au)
   (poC (λ_ _ h=>(λh=>h) h) poN)) (lB (eS [1] (mV (q:=(λι=>fH q r m n ι)) (n:=(n+m-1)) (k:=K) (λ_ _ h=>aA.rw h) rfl)) au)))))))))))))))
  (aP [.fact 0 (.one (.s)),.fact 1 (.one (.s))] ⟨Rw.Is 4 (Df q k) n,Rw.Is 4 (Df r l) m,trivial⟩) aV
def aeX (q r:Nat->Rat) (n m k l:Nat):List WP:=[Rw 4 (Df q k) n,Rw 4 (Df r l) m,Nz n]
def aeY:List Step:=[bQ [0] [oN 2] (aC 38),bQ [2,.lit (Ai 0)] oT (am .eql)]
def aeZ:List Out:=[oS 0,oS 1]
theorem ae0  (h1:n=0):aj (ph (aeX q r n m k l)) prog ⟨127,[0,1],[⟨.one (.lit (.nl)),[]⟩],false⟩:=adL aeZ [⟨.one (.lit (.nl)),[]⟩] aeY func127 (by kernel_rfl) (lB (aM (F:=(Df q k)) underlying38 ad rfl) (lB (qo ad) au))
  (aP [.fact 0 (.one (.s)),.fact 1 (.one (.s))] ⟨Rw.Is 4 (Df q k) n,Rw.Is 4 (Df r l) m,trivial⟩) aV
def ae1 (q r:Nat->Rat) (n m k l:Nat):List WP:=[Rw 4 (Df q k) n,Rw 4 (Df r l) m,Nz n,Nz m]
def ae2:List Step:=[bQ [0] [oN 2] (aC 38),bQ [2,.lit (Ai 0)] oF (am .eql),bQ [1] [oN 3] (aC 38),bQ [3,.lit (Ai 0)] oT (am .eql)]
def ae3:List Out:=[oS 0,oS 1]
theorem ae4  (h1:0<n) (h2:m=0):aj (ph (ae1 q r n m k l)) prog ⟨127,[0,1],[⟨.one (.lit (.nl)),[]⟩],false⟩:=adL ae3 [⟨.one (.lit (.nl)),[]⟩] ae2 func127 (by kernel_rfl) (lB (aM (F:=(Df q k)) underlying38 ad rfl) (lB (iL ad) (lB (aM (F:=(Df r l)) underlying38 ad rfl) (lB (qo ad) au))))
  (aP [.fact 0 (.one (.s)),.fact 1 (.one (.s))] ⟨Rw.Is 4 (Df q k) n,Rw.Is 4 (Df r l) m,trivial⟩) aV
section
variable {Φ:PH}{p y x:Nat}{c:Rat}
theorem JZ {X:Nat->Prop}{us:List Value}{sz:Nat} (hx:Φ x=Rw sz F 0) (h:cG Φ X w [⟨.one (.lit .nl),[]⟩] us):cG Φ X w [oS x] us:=by
 match us,h with
 | [u],h=>
  have e:u = .slice none 0 0:=h.1.1.1;subst e;exact cP ⟨⟨_,_,_,rfl⟩,λ_ h=>by cases h⟩ hx λ_ _=>Rw.nil _ _ _
theorem Sm (hp:Im Φ p (Rw 4 (Df q k) n)) (hy:Im Φ y (Rw 4 (Df r l) m)) (hx:Φ x=Rw 4 (Df (fH q r m n) K) N) (hk:k<=8000) (hl:l<=8000) (hK:K<=8000) (hB:∀j i p,j<n->i<=m->Bd (dF q r m j i p).num.natAbs K∧Bd (dF q r m j i p).den K) (hN:(if n=0∨m=0 then 0 else tl (λi=>(fH q r m n i).num) (n+m-1))=N) (hn:n<=400000:=by omega) (hm:m<=400000:=by omega) (hK1:1<=K:=by omega):aj Φ prog ⟨127,[.fact p,.fact y],[oS x],false⟩:=λX w vs hX ha=>by
 rcases Nat.eq_zero_or_pos n with h1 | h1
 ·rw [if_pos (.inl h1)] at hN;subst hN;exact (aU (outs:=[⟨.one (.lit .nl),[]⟩]) (Φ:=Φ) (ar:=[.fact p,.fact y]) (ae0 (q:=q) (r:=r) (n:=n) (m:=m) (k:=k) (l:=l) h1) ⟨hp,hy,trivial⟩ ⟨⟨rfl,trivial⟩,trivial⟩ X w vs hX ha).mono λ_ w' ⟨hg,us,he,h2⟩=>⟨hg,us,he,JZ hx h2⟩
 ·rcases Nat.eq_zero_or_pos m with h2 | h2
  ·rw [if_pos (.inr h2)] at hN;subst hN;exact (aU (outs:=[⟨.one (.lit .nl),[]⟩]) (Φ:=Φ) (ar:=[.fact p,.fact y]) (ae4 (q:=q) (r:=r) (n:=n) (m:=m) (k:=k) (l:=l) h1 h2) ⟨hp,hy,trivial⟩ ⟨⟨rfl,trivial⟩,trivial⟩ X w vs hX ha).mono λ_ _ ⟨hg,us,he,h2⟩=>⟨hg,us,he,JZ hx h2⟩
  ·rw [if_neg (by omega)] at hN;exact aU (Φ:=Φ) (ar:=[.fact p,.fact y]) (outs:=[⟨.one .s,[(0,0,x)]⟩]) (aeW (q:=q) (r:=r) (n:=n) (m:=m) (k:=k) (l:=l) hn hm hk hl hK hK1 h1 h2 hB) ⟨hp,hy,trivial⟩ ⟨⟨rfl,⟨rfl,rfl,λ_ _ h=>hx▸hN▸h⟩,trivial⟩,trivial⟩ X w vs hX ha
end
def sI (u d:Int) (i:Nat):Int:=if i=0 then u else d
def gM (c:Nat->Int) (T:Nat) (u d:Int):Nat->Nat->Int
 | 0,_=>0
 | j+1,i=>ef (gM c T u d j) (sI u d) 2 j i+(if i=0 then c (T-1-j)*d ^ j else 0)
section
variable {c:Nat->Int}{T:Nat}{u d:Int}
theorem BJ (h0:0<T):∀j,gM c T u d (j+1) j=c (T-1)*d ^ j
 | 0=>by simp [gM,ef]
 | j+1=>by rw [gM,if_neg (by omega)];have:=BK (z:=gM c T u d (j+1)) (y:=sI u d) (l:=2) (m:=j) (by omega);rw [show j+2-1=j+1 by omega] at this;rw [this,BJ h0 j,show (2:Nat)-1=1 from rfl,show sI u d 1=d from rfl,Int.pow_succ,Int.mul_assoc];omega
theorem BL  (h:f n≠0):tl f (n+1)=n+1:=by unfold tl;exact if_neg h
theorem BM (h0:0<T) (hc:c (T-1)≠0) (hd:d≠0) (j:Nat):gM c T u d (j+1) j≠0:=by rw [BJ h0];exact Int.mul_ne_zero hc (Int.pow_ne_zero hd)
theorem Oh (h0:0<T) (hc:c (T-1)≠0) (hd:d≠0) (j p:Nat):ef (gM c T u d j) (sI u d) 2 j p=conv (upto j (gM c T u d j)) (upto 2 (sI u d)) p:=by
 have h1:tl (sI u d) 2=2:=BL hd;have h2:tl (gM c T u d j) j=j:=by
  cases j with
  | zero=>rfl
  | succ j=>exact BL (BM h0 hc hd j)
 have:=BN (gM c T u d j) (sI u d) j 2 p;rw [h1,h2] at this;exact this
theorem BO (h0:0<T) (hc:c (T-1)≠0) (hd:d≠0) (t:Rat):∀j,j<=T->ev t j (gM c T u d j)=(d:Rat) ^ (j-1)*ev (t+u / d) j (λk=>c (T-j+k))
 | 0,_=>by simp only [ev];grind
 | j+1,hj=>by
  have hd':(d:Rat)≠0:=by exact_mod_cast hd
  have ih:=BO h0 hc hd t j (by omega);have e1:ev t (j+1) (gM c T u d (j+1))=ev t (j+1) (λi=>ef (gM c T u d j) (sI u d) 2 j i)+ev t (j+1) (λi=>if i=0 then c (T-1-j)*d ^ j else 0):=mO (j+1) _ _;have e2:ev t (j+1) (λi=>ef (gM c T u d j) (sI u d) 2 j i)=ev t j (gM c T u d j)*(u+t*d):=by
   rw [jJ (y:=conv (upto j (gM c T u d j)) (upto 2 (sI u d))) λi _=>Oh h0 hc hd j i];rw [<- kD (x:=t) (n:=j+1) (m:=j+2) (z:=conv (upto j (gM c T u d j)) (upto 2 (sI u d))) (λ_ hi=>sq (a:=j) (b:=2) (λ_ hi=>lC hi) (λ_ hi=>lC hi)) (by omega)];rw [we (b:=2) (λ_ hi=>lC hi) (a:=j) (λ_ hi=>lC hi),mP,mP];congr 1;simp only [ev,sI];simp
   try grind
  have e3:ev t (j+1) (λi=>if i=0 then c (T-1-j)*d ^ j else 0)=(c (T-1-j):Rat)*(d:Rat) ^ j:=by simp only [ev];rw [su (z:=λi=>if i+1=0 then c (T-1-j)*d ^ j else 0) λ_ _=>if_neg (by omega)];rw [if_pos trivial];push_cast;grind
  have e4:ev (t+u / d) (j+1) (λk=>c (T-(j+1)+k))=(c (T-1-j):Rat)+(t+u / d)*ev (t+u / d) j (λk=>c (T-j+k)):=by simp only [ev];rw [show T-(j+1)+0=T-1-j by omega,jJ (z:=λi=>c (T-(j+1)+(i+1))) (y:=λk=>c (T-j+k)) λ_ _=>congrArg c (by omega)]
  rw [e1,e2,e3,ih,e4,Nat.add_sub_cancel];cases j with
  | zero=>
   simp only [ev,Nat.zero_sub,Rat.pow_zero];grind
  | succ j=>
   generalize ev (t+u / d) (j+1) (λk=>c (T-(j+1)+k))=E;rw [Nat.add_sub_cancel,Rat.pow_succ];have h3:(d:Rat)*(t+u / d)=u+t*d:=by rw [Rat.mul_add,Rat.mul_comm (d:Rat) (u / d),Rat.div_mul_cancel hd'];grind
   grind
theorem BP (hT:T=tl c n) (h0:0<T) (hd:d≠0) (i:Nat) (hi:i<T):gM c T u d T i=ae (mvL c n u d) i:=by have hc:c (T-1)≠0:=hT▸fG c n (hT▸h0);refine BQ (n:=T) (λt=>?_) i hi;have h1:=Oi hd t c n u;rw [sv,<- hT] at h1;rw [h1,BO h0 hc hd t T (Nat.le_refl _),<- mP (t+u / d) c n,<- BS,<- hT,jJ (y:=c) λ_ _=>congrArg c (by omega)]
def wM (c:Nat->Int) (T:Nat) (u d:Int) (j i:Nat):Rat:=Rat.divInt (gM c T u d j i) (d ^ (j-1))
theorem Oj (hd:d≠0) (i:Nat):wM c T u d T i*(d:Rat) ^ (T-1)=((gM c T u d T i:Int):Rat):=by have h':(d:Rat) ^ (T-1)≠0:=BT (by exact_mod_cast hd) _;rw [wM,Rat.divInt_eq_div];push_cast;grind
end
def bm (n:Nat) (q r:Nat->Rat) (i:Nat):Rat:=if i<n then q i else r (i-n)
def dJ (n:Nat) (z y:Nat->Int) (i:Nat):Int:=if i<n then z i else y (i-n)
def cuX (q:Nat->Rat) (L:Nat) (i:Nat):Int:=(q i).num*((L / (q i).den:Nat):Int)
theorem sx {L:Nat} (h:(q i).den∣L):q i*((L:Int):Rat)=((cuX q L i:Int):Rat):=by obtain ⟨e,rfl⟩:=h;have h0:0<(q i).den:=(q i).den_pos;have:=sy (q i);rw [cuX,Nat.mul_div_cancel_left e h0];push_cast at this ⊢;rw [<- Rat.mul_assoc,this]
theorem Ok {a b:Int} (h:((a:Int):Rat)=((b:Int):Rat)):a=b:=by exact_mod_cast h
theorem BU {R:Nat->Int}{C:Int} (hC:0<C) (hR:∀i,i<n->q i*((C:Int):Rat)=((R i:Int):Rat)) :
  ((dnL q n:Nat):Int)*(aT (dJ n R λ_=>C) (n+1):Int)=C∧∀i,i<n->R i=cuX q (dnL q n) i*(aT (dJ n R λ_=>C) (n+1):Int):=by
 have h1:dnL q n∣C.natAbs:=qf λi hi=>wg (hR i hi);obtain ⟨E,hE⟩:=h1;have hL:=lD q n;have hCE:C=((dnL q n:Nat):Int)*(E:Int):=by rw [show C=((C.natAbs:Nat):Int) by omega,hE,Int.natCast_mul]
 have hE0:0<E:=by
  rcases Nat.eq_zero_or_pos E with h | h
  ·rw [h] at hCE;omega
  ·exact h
 have hX:∀i,i<n->R i=cuX q (dnL q n) i*(E:Int):=λi hi=>by refine Ok ?_;rw [<- hR i hi,hCE,Rat.intCast_mul,Rat.intCast_mul,<- Rat.mul_assoc,sx (mQ hi)]
 have hz:∀i,i<n+1->dJ n R (λ_=>C) i=dJ n (cuX q (dnL q n)) (λ_=>((dnL q n:Nat):Int)) i*(E:Int):=λi _=>by
  unfold dJ;split
  ·exact hX i ‹_›
  ·exact hCE
 have hg:aT (dJ n R λ_=>C) (n+1)=aT (dJ n (cuX q (dnL q n)) λ_=>((dnL q n:Nat):Int)) (n+1)*E:=by rw [qg hz,sA];rfl
 have h1:aT (dJ n (cuX q (dnL q n)) λ_=>((dnL q n:Nat):Int)) (n+1)=1:=by
  generalize hh:aT (dJ n (cuX q (dnL q n)) λ_=>((dnL q n:Nat):Int)) (n+1)=h;have d1:∀i,i<n->((h:Nat):Int)∣cuX q (dnL q n) i:=λi hi=>by have:=jK (z:=dJ n (cuX q (dnL q n)) λ_=>((dnL q n:Nat):Int)) (n:=n+1) i (by omega);rw [hh,dJ,if_pos hi] at this;exact this
  have d2:h∣dnL q n:=by have:=jK (z:=dJ n (cuX q (dnL q n)) λ_=>((dnL q n:Nat):Int)) (n:=n+1) n (by omega);rw [hh,dJ,if_neg (by omega)] at this;exact Int.ofNat_dvd.1 this
  obtain ⟨L',hL'⟩:=d2;have h0:0<h:=by
   rcases Nat.eq_zero_or_pos h with e | e
   ·rw [e,Nat.zero_mul] at hL';omega
   ·exact e
  have hL0:0<L':=by
   rcases Nat.eq_zero_or_pos L' with e | e
   ·rw [e,Nat.mul_zero] at hL';omega
   ·exact e
  have h3:dnL q n∣L':=qf λi hi=>by
   obtain ⟨x,hx⟩:=d1 i hi;have h4:=sx (mQ (q:=q) hi);have:q i*(((L':Int)):Rat)=((x:Int):Rat):=by
    have hne:(((h:Nat):Int):Rat)≠0:=λe=>by
     have:((h:Nat):Int)=0:=by exact_mod_cast e
     omega
    rw [hx,hL',Int.natCast_mul,Rat.intCast_mul,Rat.intCast_mul] at h4;have h5:=Rat.mul_inv_cancel _ hne;generalize (((h:Nat):Int):Rat)⁻¹=w at h5;have h6:=congrArg (λt=>t*w) h4;grind
   exact wg this
  have h4:=Nat.le_of_dvd hL0 h3;rw [hL'] at h4;rcases Nat.lt_or_ge h 2 with e | e
  ·omega
  ·have:=Nat.mul_le_mul_right L' e;omega
 rw [h1,Nat.one_mul] at hg;exact ⟨by rw [hg];exact hCE.symm,λi hi=>by rw [hg];exact hX i hi⟩
theorem ah.row {q:Rat} (h:ah w v q k):v.cells.size=4∧ah w (.agg v.cells) q k:=by obtain ⟨p,n,c,b,p',n',c',b',rfl,h2⟩:=h;exact ⟨rfl,p,n,c,b,p',n',c',b',rfl,h2⟩
section
variable {Φ:PH}{a b sz:Nat}
theorem BV (h:∀w v,Φ a w v->v.cells.size=sz∧F 0 w (.agg v.cells)):∀(i p:Nat),[a][i]?=some p->∀w v,Φ p w v->v.cells.size=sz∧F i w (.agg v.cells)
 | 0,p,hp=>by simp only [List.getElem?_cons_zero,Option.some.injEq] at hp;subst hp;exact h
 | i+1,p,hp=>by simp at hp
theorem wh (h:∀w v,Φ a w v->v.cells.size=sz∧F 0 w (.agg v.cells)) (h':∀w v,Φ b w v->v.cells.size=sz∧F 1 w (.agg v.cells)):∀(i p:Nat),[a,b][i]?=some p->∀w v,Φ p w v->v.cells.size=sz∧F i w (.agg v.cells)
 | 0,p,hp=>by simp only [List.getElem?_cons_zero,Option.some.injEq] at hp;subst hp;exact h
 | 1,p,hp=>by simp only [List.getElem?_cons_succ,List.getElem?_cons_zero,Option.some.injEq] at hp;subst hp;exact h'
 | i+2,p,hp=>by simp at hp
end
abbrev qB (L:List Int) (u d:Int):Nat->Rat:=wM (ae L) L.length u d L.length
abbrev dB (Lx Ly:List Int) (u d:Int):Nat:=dnL (bm Lx.length (qB Lx u d) (qB Ly u d)) (Lx.length+Ly.length)
theorem Ol {Φ:PH}{x:Nat}{e:TypeId} (hx:Φ x=aA 4 e F 0) (X:Nat->Prop) (w:World) (v:Value) (h:(Arg.parts (.one (.lit .nl)) []).ok Φ X w v):(Arg.fact x).ok Φ X w v:=λ_ _=>by rw [hx];have e:v = .slice none 0 0:=h.1.1;rw [e];exact aA.nil _ _ _ _
section
variable {Φ:PH}{p q x:Nat}{u:Nat->Rat}
theorem Om (hp:Im Φ p (aA 4 57 (Df u k) 0)) (hq:Im Φ q (Rw 4 (Df u k) n)) (hx:Φ x=aA 4 57 (Df u k) n) (hn:n<=1000000:=by omega):aj Φ prog ⟨0,[.fact p,.fact q],[oS x],.loose [] j 0 (cA 38 38)⟩:=by obtain ⟨i0,hi,hz0,hz1,hz2⟩:=info_parts pT;exact sb (F:=λi w v=>ah w v (u i) k) (G:=λi w v=>ah w v (u i) k) (F':=λi w v=>ah w v (u i) k) (n:=0) (m:=n) underlying38 hi hz0 hz1 hz2 rfl pV (λ_ _ _ _ g h=>ah.kp h g) hp hq (λ_ _ _ hi=>absurd hi (by omega)) (λ_ _ _ _ h=>by rw [Nat.zero_add];exact h) (λ_ _ _ h=>ah.dQ h) (by omega) (by rw [hx,Nat.zero_add])
theorem On (hp:Im Φ p (aA 4 57 (Df u k) n)) (hq:Im Φ q (Rw 4 (Df r k) m)) (hx:Φ x=aA 4 57 (Df (bm n u r) k) (n+m)) (hn:n+m<=1000000:=by omega):aj Φ prog ⟨0,[.fact p,.fact q],[oS x],.loose [] j 0 (cA 38 38)⟩:=by obtain ⟨i0,hi,hz0,hz1,hz2⟩:=info_parts pT;exact sb (F:=λi w v=>ah w v (u i) k) (G:=λi w v=>ah w v (r i) k) (F':=λi w v=>ah w v (bm n u r i) k) (n:=n) (m:=m) underlying38 hi hz0 hz1 hz2 rfl pV (λ_ _ _ _ g h=>ah.kp h g) hp hq (λ_ _ _ hi h=>by rw [bm,if_pos hi];exact h) (λ_ _ _ _ h=>by rw [bm,if_neg (by omega),Nat.add_sub_cancel_left];exact h) (λ_ _ _ h=>ah.dQ h) hn hx
end
section
variable {Φ:PH}{p q x T kx ks:Nat}{c:Nat->Int}{t:Rat}{u d:Int}
end
def Oo (q:Nat->Rat) (z:Int) (n k l K N:Nat):List WP:=[Rw 4 (Df q k) n,Jw z l,Jw (1:Int) 2,Dw ((z:Int):Rat) (l+2+2),Jw (((z:Int):Rat).num) (l+2+2),Jw (((z:Int):Rat).den:Int) (l+2+2),λw v=>Rw 4 (λι w v=>ah w v (((q ι)*((z:Int):Rat))) K) N w v]
def Ot:List Step:=[cB 24 [.lit (Ai 1)] [oD 2],
   cB 53 [1,2] [⟨.agg [.s,.b,.s,.b],[(0,0,3),(0,2,4),(2,2,5)]⟩],
   cB 82 [0,3] [oS 6]]
def Ou:List Out:=[oS 0,oD 1]
theorem Ov {z:Int} (hn:n<=1000000) (hk:k<=8000) (hl:l<=7000) (hK:K<=400000) (hB:∀i,i<n->Bd (q i*((z:Int):Rat)).num.natAbs K∧Bd (q i*((z:Int):Rat)).den K) (hN:tl (λi=>(q i*((z:Int):Rat)).num) n=N):aj (ph (Oo q z n k l K N)) prog ⟨124,[0,1],[oS 6],false⟩:=adL Ou [oS 6] Ot func124 (by kernel_rfl) (lB (fP (z:=1) rfl rfl) (lB (gv dD dD rfl rfl rfl (gg z)) (lB (jk (q:=(λi=>(q i))) (c:=((z:Int):Rat)) (n:=n) (K:=K) ad tS rfl hB hN) au)))
  (aP [.fact 0 (.one (.s)),.fact 1 (.agg [.s,.b])] ⟨Rw.Is 4 (Df q k) n,λ_ _ h=>ai.is h,trivial⟩) aV
section
variable {Φ:PH}{p y x:Nat}{z:Int}{X:Nat->Int}
theorem BW (hp:Im Φ p (Rw 4 (Df q k) n)) (hy:Im Φ y (Jw z l)) (hx:Φ x=Rw 4 (Zf X K) n) (hX:∀i,i<n->q i*((z:Int):Rat)=((X i:Int):Rat)) (hB:∀i,i<n->Bd (X i).natAbs K) (hK1:1<=K) (ht:0<n->X (n-1)≠0) (hn:n<=1000000:=by omega) (hk:k<=8000:=by omega) (hl:l<=7000:=by omega) (hK:K<=400000:=by omega):aj Φ prog ⟨124,[.fact p,.fact y],[oS x],false⟩:=by
 refine aU (Ov (q:=q) (z:=z) (K:=K) (N:=n) hn hk hl hK (λi hi=>?_) (gw λh=>?_)) ⟨hp,hy,trivial⟩ ⟨⟨rfl,⟨rfl,rfl,λw v h=>?_⟩,trivial⟩,trivial⟩
 ·rw [hX i hi];exact ⟨hB i hi,dV hK1⟩
 ·show (q (n-1)*((z:Int):Rat)).num≠0;rw [hX _ (by omega)];exact ht h
 ·rw [hx];exact Rw.to (sz:=4) (n:=n) (F:=λi w v=>ah w v (q i*((z:Int):Rat)) K) h λi _ _ hi h=>ah.eq h (hX i hi)
end
theorem Ow {kd:Nat} (hj:j<N) (hb:Bd (dnL q N) kd):(Int.gcd (dnL q j:Int) ((q j).den:Int):Int)≠0∧(Int.gcd (dnL q j:Int) ((q j).den:Int):Int)∣(dnL q j:Int)*((q j).den:Int)∧(dnL q j:Int)*((q j).den:Int) / (Int.gcd (dnL q j:Int) ((q j).den:Int):Int)=(dnL q (j+1):Int)∧Bd (dnL q (j+1):Int).natAbs kd:=by
 rw [show (Int.gcd (dnL q j:Int) ((q j).den:Int))=Nat.gcd (dnL q j) (q j).den from rfl,<- Int.natCast_mul,<- Int.natCast_ediv];refine ⟨?_,Int.natCast_dvd_natCast.2 (Nat.dvd_trans (Nat.gcd_dvd_left _ _) (Nat.dvd_mul_right _ _)),rfl,?_⟩
 ·have:=Nat.gcd_pos_of_pos_left (q j).den (lD q j);omega
 ·rw [Int.natAbs_natCast];exact hb.le (Nat.le_of_dvd (lD q N) (qf λ_ _=>mQ (by omega)))
section
variable {Φ:PH}{p y p0 p1 p2 kd:Nat}
end
section
variable {Φ:PH}{p q r p0 p1 p2 ks kd:Nat}{x y:Nat->Int}{t:Rat}{u d:Int}{Lx Ly:List Int}
end
section
variable {Φ:PH}{p x:Nat}{L:List Int}
end
section
variable {Φ:PH}{p q x:Nat}{L:List Int}
end
section
variable {T:Nat->Int}{c:Int}
end
section
variable {y:Nat->Int}{p:Nat}{c:Int}
end
theorem qh {L:List Int} (h:∀x,x ∈ L->-9223372036854775808<=x∧x<=9223372036854775807) (i:Nat) : -9223372036854775808<=ae L i∧ae L i<=9223372036854775807:=by
 unfold ae;rw [List.getD_eq_getElem?_getD];cases hi:L[i]? with
 | none=>simp
 | some x=>exact h x (List.mem_of_getElem? hi)
section
variable {Φ:PH}{a b c:Nat}{x y z:Int}
theorem ow (h:Im Φ a (Ni x)):∀(i p:Nat),[a][i]?=some p->∀w v,Φ p w v->v.cells.size=1∧(λi _ v=>v = .agg #[.int .i64 (ae [x] i)]:PH) i w (.agg v.cells)
 | 0,p,hp,w,v,hv=>by simp only [List.getElem?_cons_zero,Option.some.injEq] at hp;subst hp;rw [h w v hv];exact ⟨rfl,rfl⟩
 | i+1,p,hp,_,_,_=>by simp at hp
end
section
variable {Φ:PH}{p q x kq:Nat}
end
theorem BZ {c c':Nat->Int}{T:Nat}{u d:Int} (h:∀i,i<T->c i=c' i):∀j,j<=T->gM c T u d j=gM c' T u d j
 | 0,_=>rfl
 | j+1,hj=>funext λ_=>by rw [gM,gM,BZ h j (by omega),h (T-1-j) (by omega)]
theorem mk_congr {g:Nat->Int} (h:∀i,i<n->f i=g i):mk n f=mk n g:=List.map_congr_left λi hi=>h i (List.mem_range.1 hi)
def rbZ (z:Nat->Int) (n:Nat) (u d:Int) (kk i:Nat):Int:=ae (mvL z n u d) i*d ^ (kk-(tl z n-1))
section
variable {kk:Nat}{u d:Int}{L P:List Int}
theorem jL (hL:aw (mk n z)=L):L.length=tl z n:=by rw [<- hL,fF]
theorem qi (hL:aw (mk n z)=L) (i:Nat) (hi:i<tl z n):ae L i=z i:=by have:=bg z n;rw [<- hL,ig,cU,if_pos (by omega)]
theorem Ca (hd:d≠0) (hL:aw (mk n z)=L) (hk:tl z n-1<=kk) (i:Nat) (hi:i<tl z n:=by omega):qB L u d i*((d ^ kk:Int):Rat)=((rbZ z n u d kk i:Int):Rat):=by
 have e:qB L u d i=wM z (tl z n) u d (tl z n) i:=by show Rat.divInt (gM (ae L) L.length u d L.length i) (d ^ (L.length-1))=Rat.divInt (gM z (tl z n) u d (tl z n) i) (d ^ (tl z n-1));rw [jL hL,BZ (qi hL) _ (Nat.le_refl _)]
 have h1:=Oj (c:=z) (T:=tl z n) (u:=u) hd i;rw [BP rfl (by omega) hd i hi] at h1;have h2:d ^ kk=d ^ (tl z n-1)*d ^ (kk-(tl z n-1)):=by rw [<- Int.pow_add];congr 1;omega
 rw [e,rbZ,h2,Rat.intCast_mul,Rat.intCast_mul,<- h1,<- Rat.mul_assoc];congr 2;push_cast;rfl
theorem wi (hd:d≠0) (h0:0<tl z n):rbZ z n u d kk (tl z n-1)≠0:=by
 refine Int.mul_ne_zero ?_ (Int.pow_ne_zero hd);rw [<- BP rfl h0 hd _ (by omega)];have:=BM (u:=u) h0 (fG z n h0) hd (tl z n-1)
 rwa [Nat.sub_add_cancel h0] at this
theorem Cc (hd:d≠0) (hP:aw (mk (mvL z n u d).length λi=>ae (mvL z n u d) i*d ^ (kk-(tl z n-1)))=P):P.length=tl z n:=by rw [<- hP,fF,sv];exact gw λh=>wi (kk:=kk) hd h
theorem Cd (_hd:d≠0) (hP:aw (mk (mvL z n u d).length λi=>ae (mvL z n u d) i*d ^ (kk-(tl z n-1)))=P) (i:Nat) (hi:i<tl z n:=by omega):ae P i=rbZ z n u d kk i:=by rw [<- hP,ig,cU,sv,if_pos hi];rfl
end
section
variable {x y:Nat->Int}{kk g:Nat}{u d:Int}{Lx Ly P Q:List Int}
theorem Ce (hd:0<d) (hLx:aw (mk n x)=Lx) (hLy:aw (mk m y)=Ly) (hP:aw (mk (mvL x n u d).length λi=>ae (mvL x n u d) i*d ^ (kk-(tl x n-1)))=P) (hQ:aw (mk (mvL y m u d).length λi=>ae (mvL y m u d) i*d ^ (kk-(tl y m-1)))=Q)
  (hg:aT (cJ (aE (ae P) (ae Q)) (aE P.length Q.length) (d ^ kk)) ((bj (aE (ae P) (ae Q)) (aE P.length Q.length) 2).length+1)=g) (hk1:tl x n-1<=kk:=by omega) (hk2:tl y m-1<=kk:=by omega) :
  ((dB Lx Ly u d:Nat):Int)*(g:Int)=d ^ kk∧(∀i,i<Lx.length->rbZ x n u d kk i=cuX (qB Lx u d) (dB Lx Ly u d) i*(g:Int))∧(∀i,i<Ly.length->rbZ y m u d kk i=cuX (qB Ly u d) (dB Lx Ly u d) i*(g:Int)):=by
 have hd':d≠0:=by omega
 have lx:=jL hLx;have ly:=jL hLy;have px:=Cc hd' hP;have py:=Cc hd' hQ;have h:=BU (q:=bm Lx.length (qB Lx u d) (qB Ly u d)) (R:=dJ Lx.length (rbZ x n u d kk) (rbZ y m u d kk)) (C:=d ^ kk) (n:=Lx.length+Ly.length) (Int.pow_pos hd) λi hi=>by
  unfold bm dJ;split
  ·exact Ca hd' hLx hk1 i
  ·exact Ca hd' hLy hk2 _
 have e:aT (dJ (Lx.length+Ly.length) (dJ Lx.length (rbZ x n u d kk) (rbZ y m u d kk)) λ_=>d ^ kk) (Lx.length+Ly.length+1)=g:=by
  rw [<- hg,kE,px,py,lx,ly];refine qg λi hi=>?_;unfold dJ;split
  ·split
   ·rw [vZ,Cd hd' hP _]
   ·have:=wa (x:=ae P) (y:=ae Q) (nx:=tl x n) (ny:=tl y m) (d:=d ^ kk) (i:=i-tl x n);rw [show tl x n+(i-tl x n)=i by omega] at this;rw [this,Cd hd' hQ _]
  ·obtain rfl:i=tl x n+tl y m:=by omega
   have:=qe (zz:=aE (ae P) (ae Q)) (ln:=aE (tl x n) (tl y m)) (d:=d ^ kk);rw [kE] at this;exact this
 rw [e] at h;refine ⟨h.1,λi hi=>?_,λi hi=>?_⟩
 ·have:=h.2 i (by omega)
  rwa [dJ,if_pos hi,show cuX (bm Lx.length (qB Lx u d) (qB Ly u d)) (dB Lx Ly u d) i=cuX (qB Lx u d) (dB Lx Ly u d) i by unfold cuX bm;rw [if_pos hi]] at this
 ·have:=h.2 (Lx.length+i) (by omega)
  rwa [dJ,if_neg (by omega),Nat.add_sub_cancel_left,show cuX (bm Lx.length (qB Lx u d) (qB Ly u d)) (dB Lx Ly u d) (Lx.length+i)=cuX (qB Ly u d) (dB Lx Ly u d) i by unfold cuX bm;rw [if_neg (by omega),Nat.add_sub_cancel_left]] at this
end
section
variable {kk:Nat}{u d:Int}
theorem wj (hd:Bd d.natAbs 2):∀j,j<=6->Bd (d ^ j).natAbs 20:=λj _=>by rw [Int.natAbs_pow];exact (Bd.vU hd j).more (by omega)
theorem Ox (h6:tl z n<=6) (hz:∀i,i<n->Bd (z i).natAbs 3) (hu:Bd u.natAbs 2) (hd:Bd d.natAbs 2) (j a:Nat) (hj:j<=tl z n) (ha:a<tl z n):Bd (mvS z n u d j a).natAbs 300:=by have hle:=bg z n;have h1:=NN (u:=u) (λi _=>hz i (by omega)) hd hu j a ha;have h2:j*(tl z n*(2+1))<=6*(6*(2+1)):=Nat.mul_le_mul (by omega) (Nat.mul_le_mul_right _ (by omega));exact h1.more (by omega)
theorem Cf (hz:∀i,i<n->Bd (z i).natAbs 3) (hu:Bd u.natAbs 2) (hd:Bd d.natAbs 2) (hk:kk<=6) (i:Nat) (h6:tl z n<=6:=by omega) (hi:i<tl z n:=by omega):Bd (rbZ z n u d kk i).natAbs 340:=by rw [rbZ,wk hi,Int.natAbs_mul,Int.natAbs_mul];exact ((Ox h6 hz hu hd _ i (Nat.le_refl _) hi).mul (wj hd i (by omega))).mul (wj hd _ (by omega))
end
structure sC (x y:Nat->Int) (n m:Nat) (u d:Int) (Lx Ly:List Int):Prop where
 n200:n<=200
 aiv:m<=200
 hx:aw (mk n x)=Lx
 hy:aw (mk m y)=Ly
 x6:Lx.length<=6
 y6:Ly.length<=6
 bx:∀i,i<n->Bd (x i).natAbs 3
 jM:∀i,i<m->Bd (y i).natAbs 3
 dp:0<d
 bu:Bd u.natAbs 2
 bd:Bd d.natAbs 2
section
variable {x y:Nat->Int}{u d:Int}{Lx Ly:List Int}
theorem sC.all (h:sC x y n m u d Lx Ly):Bd (dB Lx Ly u d) 340∧(∀i,i<Lx.length->Bd (cuX (qB Lx u d) (dB Lx Ly u d) i).natAbs 340)∧(∀i,i<Ly.length->Bd (cuX (qB Ly u d) (dB Lx Ly u d) i).natAbs 340)∧(0<Lx.length->cuX (qB Lx u d) (dB Lx Ly u d) (Lx.length-1)≠0)∧(0<Ly.length->cuX (qB Ly u d) (dB Lx Ly u d) (Ly.length-1)≠0):=by
 have lx:=jL h.hx;have ly:=jL h.hy;have hx6:=h.x6;have hy6:=h.y6;have hd':d≠0:=by have:=h.dp;omega
 obtain ⟨h1,h2,h3⟩:=Ce (kk:=6) h.dp h.hx h.hy rfl rfl rfl;generalize aT _ _=g at h1 h2 h3;have hg:0<g:=by
  rcases Nat.eq_zero_or_pos g with e | e
  ·rw [e] at h1;have:(0:Int)<d ^ 6:=Int.pow_pos h.dp;omega
  ·exact e
 have hle:∀{a b:Int},a=b*(g:Int)->b.natAbs<=a.natAbs:=λ{a b} e=>by rw [e,Int.natAbs_mul,Int.natAbs_natCast];exact Nat.le_mul_of_pos_right _ hg
 refine ⟨?_,λi hi=>?_,λi hi=>?_,λh0=>?_,λh0=>?_⟩
 ·have:=hle h1.symm;rw [Int.natAbs_natCast] at this;exact ((wj h.bd 6 (by omega)).le this).more (by omega)
 ·exact (Cf h.bx h.bu h.bd (Nat.le_refl 6) i).le (hle (h2 i hi))
 ·exact (Cf h.jM h.bu h.bd (Nat.le_refl 6) i).le (hle (h3 i hi))
 ·intro e;have h5:=h2 _ (show Lx.length-1<Lx.length by omega);rw [e,Int.zero_mul,lx] at h5;exact wi hd' (by omega) h5
 ·intro e;have h5:=h3 _ (show Ly.length-1<Ly.length by omega);rw [e,Int.zero_mul,ly] at h5;exact wi hd' (by omega) h5
end
section
variable {Φ:PH}{p q r p0 p1 p2 ks kt:Nat}{x y:Nat->Int}{t:Rat}{u d:Int}{Lx Ly X Y:List Int}
end
open Go.RowKit Go.ChangeShapes Go.WideShapes Go.ChangeAt
theorem Oy:prog.cellsOf 25=1:=by kernel_rfl
theorem Oz:prog.cellsOf 30=4:=by kernel_rfl
section
variable {H:Type}{enc:TypeId×Value->H}{W:World}{base:Nat}{held:Bool}
theorem wl {x:Value}{fuel:Nat}{z:DataW H×List MemPlace} (hf:DataW.trod enc prog W base (λ_=>true) held fuel 25 [x]=some z):∃(n:Nat) (a:Nat->Bool) (xs:Nat->List Nat),n<=9223372036854775807∧Rw 2 (λi w v=>aJ w v (a i) (xs i)) n W x:=by
 rcases Deep.open_slice underlying25 hf with ⟨hcs,_⟩ | ⟨a,len,cap,m,n,D,Pl,hcs,_,hl,hm,hmm,_,hx⟩
 ·obtain rfl:x = .slice none 0 0:=by simpa using hcs
  exact ⟨0,λ_=>false,λ_=>[],by omega,none,0,rfl,Nat.le_refl _,λ_ _=>by omega⟩
 ·obtain rfl:x = .slice (some a) len cap:=by simpa using hcs
  simp only [if_true] at hmm;have each:∀i,i<len->∃q:Bool×List Nat×List Value,q.2.2.length=2∧(∀(j:Nat) (u:Value),q.2.2[j]?=some u->W.cell? (a.add (i*2+j))=some u)∧aJ W (.agg q.2.2.toArray) q.1 q.2.1:=λi hi=>by
   obtain ⟨cs,h1,h2⟩:=hx i (by omega);rw [Tryz.cells24] at h1;obtain ⟨_,hlen,hcell⟩:=World.cells?_some h1
   match cs,hlen with
   | [c0,c1],_=>
    obtain ⟨b,xs,rfl,h5,h6⟩:=wm h2;refine ⟨(b,xs,[.bool b,c1]),rfl,λj u hj=>?_,⟨_,rfl,h5,h6⟩⟩;have hlt:=(List.getElem?_eq_some_iff.1 hj).1;have e:=hcell j (by simpa using hlt);rw [Deep.add_add] at e;rw [e];exact hj
  obtain ⟨q,hq⟩:=Deep.choose_lt each;refine ⟨len,λi=>(q i).1,λi=>(q i).2.1,?_,some a,cap,rfl,hl,λi hi=>?_⟩
  ·have:maxLen<=9223372036854775807:=by decide
   omega
  obtain ⟨h1,h2,h3⟩:=hq i hi;obtain ⟨b,off,spot⟩:=a;obtain ⟨g1,g2,-⟩:=hq 0 (by omega);have h0:=g2 0 ((q 0).2.2[0]'(by omega)) (List.getElem?_eq_getElem (by omega));have hspot:spot=none:=by simpa [Addr.add] using World.cell?_spot h0
  subst hspot;refine ⟨b,off,rfl,(q i).2.2,h1,λj u hj=>?_,h3⟩;have:=h2 j u hj;rw [Addr.add_lit] at this;rw [Nat.add_assoc];exact this
end
theorem Ch  (h:Rw 2 (λi w v=>KI w v (a i) (xs i) (z i) m) n w v):Rw 2 (If z m) n w v:=Rw.to h λ_ _ _ _ h=>h.2
def OA (aa ab:Nat->Bool) (xsa xsb:Nat->List Nat) (mR mS:Nat->Int) (ma mb Na Nb K m:Nat) (a0:Bool) (xs0:List Nat) (z0:Int):List WP:=[λw v=>Rw 2 (λι w v=>aJ w v (aa ι) (xsa ι)) ma w v,λw v=>Rw 2 (λι w v=>aJ w v (ab ι) (xsb ι)) mb w v,λw v=>aJ w v a0 xs0,Nz K,Nz m,λw v=>Rw 2 (λι w v=>KI w v (aa ι) ((λι=>(xsa ι).take m) ι) (mR ι) m) Na w v,λw v=>Rw 2 (λι w v=>KI w v (ab ι) ((λι=>(xsb ι).take m) ι) (mS ι) m) Nb w v,λw v=>KI w v a0 (xs0.take m) z0 m]
def OC:List Step:=[cB 79 [0,3,4] [oS 5],
   cB 79 [1,3,4] [oS 6],
   cB 80 [2,4] [oI 7]]
def OD:List Out:=[⟨.agg [.s,.s,.b,.s],[(0,1,0),(1,1,1),(2,2,2)]⟩,oN 3,oN 4]
theorem OE {aa ab:Nat->Bool}{xsa xsb:Nat->List Nat}{mR mS:Nat->Int}{ma mb Na Nb:Nat}{a0:Bool}{xs0:List Nat}{z0:Int} (hK:K<=1000000) (hna:ma<=9223372036854775807) (hnb:mb<=9223372036854775807) (hza:∀j,sg (aa j) (Proofs.YtlmanbjkkjfjgaaGreat.val 4294967296 ((xsa j).take m))=mR j) (hzb:∀j,sg (ab j) (Proofs.YtlmanbjkkjfjgaaGreat.val 4294967296 ((xsb j).take m))=mS j) (wo:min ma K=Na) (wq:min mb K=Nb) (hz0:sg a0 (Proofs.YtlmanbjkkjfjgaaGreat.val 4294967296 (xs0.take m))=z0):aj (ph (OA aa ab xsa xsb mR mS ma mb Na Nb K m a0 xs0 z0)) prog ⟨50,[.parts (.agg [.s,.s,.b,.s]) [(0,1,0),(1,1,1),(2,2,2)],3,4],[⟨.agg [.s,.s,.b,.s],[(0,1,5),(1,1,6),(2,2,7)]⟩],false⟩:=adL OD [⟨.agg [.s,.s,.b,.s],[(0,1,5),(1,1,6),(2,2,7)]⟩] OC func50 (by kernel_rfl) (lB (Ci K m ad ad ad rfl hza wo) (lB (Ci K m ad ad ad rfl hzb wq) (lB (ws m ad ad rfl hz0) au)))
  (aP [.parts (.agg [.s,.s,.b,.s]) [(0,1,0),(1,1,1),(2,2,2)],.fact 3 (.one (.i)),.fact 4 (.one (.i))] ⟨trivial,λ_ _ h=>h▸cY _,λ_ _ h=>h▸cY _,trivial⟩) (λ_ _ _ h=>h)
section
variable {Φ:PH}{p0 p1 p2 q0 q1 q2:Nat}{aa ab:Nat->Bool}{xsa xsb:Nat->List Nat}{mR mS:Nat->Int}{ma mb Na Nb:Nat}{a0:Bool}{xs0:List Nat}{z0 Ki mi:Int}
theorem jN (K m:Nat) (hKi:(K:Int)=Ki) (hmi:(m:Int)=mi) (h0:∀w v,Φ p0 w v->Rw 2 (λi w v=>aJ w v (aa i) (xsa i)) ma w v) (h1:∀w v,Φ p1 w v->Rw 2 (λi w v=>aJ w v (ab i) (xsb i)) mb w v) (h2:∀w v,Φ p2 w v->aJ w v a0 xs0) (g0:Φ q0=Rw 2 (If mR m) Na) (g1:Φ q1=Rw 2 (If mS m) Nb) (g2:Φ q2=Iw z0 m) (hna:ma<=9223372036854775807) (hnb:mb<=9223372036854775807) (hza:∀j,sg (aa j) (Proofs.YtlmanbjkkjfjgaaGreat.val 4294967296 ((xsa j).take m))=mR j) (hzb:∀j,sg (ab j) (Proofs.YtlmanbjkkjfjgaaGreat.val 4294967296 ((xsb j).take m))=mS j) (wo:min ma K=Na) (wq:min mb K=Nb) (hz0:sg a0 (Proofs.YtlmanbjkkjfjgaaGreat.val 4294967296 (xs0.take m))=z0) (hK:K<=1000000:=by omega) :
  aj Φ prog ⟨50,[.parts cS [(0,1,p0),(1,1,p1),(2,2,p2)],.lit (Ai Ki),.lit (Ai mi)],[⟨.agg [.s,.s,.b,.s],[(0,1,q0),(1,1,q1),(2,2,q2)]⟩],false⟩:=by
 subst hKi;subst hmi;exact aU (OE (K:=K) (m:=m) hK hna hnb hza hzb wo wq hz0) ⟨⟨rfl,⟨rfl,rfl,h0⟩,⟨rfl,rfl,h1⟩,⟨rfl,rfl,h2⟩,trivial⟩,λ_=>rfl,λ_=>rfl,trivial⟩ ⟨⟨rfl,⟨rfl,rfl,λ_ _ h=>by rw [g0];exact Ch h⟩,⟨rfl,rfl,λ_ _ h=>by rw [g1];exact Ch h⟩,⟨rfl,rfl,λ_ _ h=>by rw [g2];exact kI _ _ h⟩,trivial⟩,trivial⟩
end
theorem Cj  (h:Rw 2 (λi w v=>aJ w v (a i) (xs i)) n w v) (hz:∀j,sg (a j) (Proofs.YtlmanbjkkjfjgaaGreat.val 4294967296 ((xs j).take m))=z j) (i:Nat) (hi:i<n):Bd (z i).natAbs m:=by obtain ⟨p,c,rfl,_,h1⟩:=h;obtain ⟨_,_,_,l,_,_,s,_,_,h2⟩:=h1 i hi;rw [<- hz i,eO];exact Bd.row _ h2 m
theorem OF {z u:Int} (hz:Bd z.natAbs k) (hu:Bd u.natAbs k) (hk:1<=k:=by omega):Bd (aH z u).num.natAbs k∧Bd (aH z u).den k:=by
 unfold aH;split
 ·exact ⟨hz.le (wt _ _),Bd.le (show Bd 1 k from Nat.one_lt_pow (by omega) (by omega)) (wu (by omega))⟩
 ·rename_i h;exact ⟨hz.le (wt _ _),hu.le (wu h)⟩
end Go.Proofs.YtlmanbjkkjfjgaaGreat.Sym
