/- The reference's product of polynomials over the rationals. -/
import Derived.Test.YthmcngjhkmpneaaGreatDivX
set_option maxRecDepth 100000
namespace Go.Proofs.YthmcngjhkmpneaaGreat.Sym
open Go.RowKit
theorem KD:aD 0 1=0:=by decide +kernel
def b8 (q r:Nat->Rat) (l:Nat):Nat->Nat->Rat
 | 0,_=>0
 | j+1,p=>b8 q r l j p+(if j<=p∧p<j+l then q j*r (p-j) else 0)
def bH (q r:Nat->Rat) (l j i p:Nat):Rat:=b8 q r l j p+(if j<=p∧p<j+i then q j*r (p-j) else 0)
section
variable {q r:Nat->Rat}{l j i p:Nat}
theorem KE:bH q r l j 0 p=b8 q r l j p:=by
 unfold bH
 rw [if_neg (by omega),Rat.add_zero]
theorem KF (h:p≠j+i):bH q r l j (i+1) p=bH q r l j i p:=by
 unfold bH
 split <;> split <;> first | rfl | omega
theorem KG:bH q r l j i (j+i)+q j*r i=bH q r l j (i+1) (j+i):=by
 unfold bH
 rw [if_neg (by omega),if_pos (by omega),show j+i-j=i by omega,Rat.add_zero]
end
theorem KH.kp {j K:Nat}{w w1:World}{v:Value}{i:Nat} (h:i<j->ah w v 0 K) (g:Kp w w1):i<j->ah w1 v 0 K:=fun hi=>ah.kp (h hi) g
def iG (q r:Nat->Rat) (n m k l K:Nat):List WP:=[Rw 4 (Df q k) n,Rw 4 (Df r l) m,Nz n,Nz m,Nz n,Nz m,Nz (n+m),Nz (n+m-1),fun w v=>am 4 44 (fun ι w v=>ι<0->ah w v 0 K) (n+m-1) w v,eC (n+m-1),Nz (n+m-1),am 4 44 (Df (b8 q r m 0) K) (n+m-1),Nz n,am 4 44 (Df (b8 q r m n) K) (n+m-1),Rw 4 (Df (b8 q r m n) K) (tl (fun ι=>(b8 q r m n ι).num) (n+m-1))]
def KJ (q r:Nat->Rat) (n m k l K:Nat) (j i:Nat):List WP:=[Nz i,am 4 44 (Df (bH q r m j i) K) (n+m-1),fun _ _=>True,Nz (j+i),Nz (j+i),At 4,Ptr 4 (Dw (bH q r m j i (j+i)) K),Dw (bH q r m j i (j+i)) K,Ptr 4 (Dw (q j) k),Dw (q j) k,Ptr 4 (Dw (r i) l),Dw (r i) l,Dw ((q j)*(r i)) (2*(k+l)+2),fun w v=>ae w v (((q j)*(r i)).num) (2*(k+l)+2),fun w v=>ae w v (((q j)*(r i)).den:Int) (2*(k+l)+2),Dw ((bH q r m j i (j+i))+((q j)*(r i))) (3*(K+(2*(k+l)+2))+3),fun w v=>ae w v (((bH q r m j i (j+i))+((q j)*(r i))).num) (3*(K+(2*(k+l)+2))+3),fun w v=>ae w v (((bH q r m j i (j+i))+((q j)*(r i))).den:Int) (3*(K+(2*(k+l)+2))+3),At 4,Ptr 4 (Dw (bH q r m j i (j+i)) K),fun w v=>am 4 44 (fun ι w v=>ah w v (bH q r m j (i+1) ι) K) (n+m-1) w v,Nz (i+1)]
def x8:bj:=⟨[0,1,4,7,9,10,11,12,13,14,15,16,17,18,19,20,21,22,23,24,25,26,27,34,35,36,37,38,39,40],[(.slot 41,.i),(.slot 5,.s)],[(.one 0,21),(.one 1,.bZ [1] 22),(.one 1,.lo 1)],[.closed (.one (.ci .i64 0)),.frm 16,.frm 0],21,[(22,19)]⟩
def x9:List Step:=[bQ [.fact 21,.fact 18] oT (au .lss),
   bQ [.fact 15,.fact 21] [oN 24] (au .add),
   bQ [.fact 15,.fact 21] [oN 25] (au .add),
   .base ⟨0,[.fact 22,.fact 25],[oP 27],.joint [1] 26 (aO 24)⟩,
   .base ⟨0,[.fact 27],[oQ 28],.gz [1] (aS 44)⟩,
   bQ [.fact 0,.fact 15] [oP 29] (aO 24),
   bQ [.fact 29] [oQ 30] (aS 44),
   bQ [.fact 1,.fact 21] [oP 31] (aO 24),
   bQ [.fact 31] [oQ 32] (aS 44),
   .base ⟨52,[.fact 30,.fact 32],[⟨.agg [.s,.b,.s,.b],[(0,0,33),(0,2,34),(2,2,35)]⟩],false⟩,
   .base ⟨40,[.fact 28,.fact 33],[⟨.agg [.s,.b,.s,.b],[(0,0,36),(0,2,37),(2,2,38)]⟩],.c9 [1] false⟩,
   .base ⟨0,[.fact 22,.fact 24],[oP 40],.joint [1] 39 (aO 24)⟩,
   .base ⟨0,[.fact 22,.fact 24,.any,.fact 36],[oS 41],.put [] 1 0 39 (eN 44 (.tmp 44) (.tmp 47))⟩,
   bQ [.fact 21,.lit (.ci .i64 1)] [oN 42] (au .add)]
def KK:List Step:=[bQ [.fact 21,.fact 18] oF (au .lss)]
def rq (q r:Nat->Rat) (n m K:Nat) (j:Nat):List WP:=[Nz j,am 4 44 (Df (b8 q r m j) K) (n+m-1),fun _ _=>True,Nz m,am 4 44 (Df (bH q r m j m) K) (n+m-1),Nz (j+1)]
def yc:bj:=⟨[0,1,4,9,10,11,12,13,14,15,16,17,18,19,20,21,22,23,24,25,26,27,34,35],[(.slot 36,.i),(.slot 5,.s)],[(.one 0,15),(.one 1,.bZ [1] 16),(.one 1,.lo 1)],[.closed (.one (.ci .i64 0)),.frm 11,.frm 0],15,[(16,13)]⟩
def yd:List Step:=[bQ [.fact 15,.fact 12] oT (au .lss),
   bQ [.fact 1] [oN 18] (aI 24),
   .loop x8 [(x9,[.frm 42,.frm 41,.frm 0])] KK,
   bQ [.fact 15,.lit (.ci .i64 1)] [oN 20] (au .add)]
def KL:List Step:=[bQ [.fact 15,.fact 12] oF (au .lss)]
def KM (n m K:Nat) (j:Nat):List WP:=[Nz j,fun w v=>am 4 44 (fun ι w v=>ι<j->ah w v 0 K) (n+m-1) w v,fun _ _=>True,Dw (aD 0 1) 6,fun w v=>ae w v ((aD 0 1).num) 6,fun w v=>ae w v ((aD 0 1).den:Int) 6,At 4,fun w v=>Ptr 4 (fun w v=>j<j->ah w v 0 K) w v,fun w v=>am 4 44 (fun ι w v=>ι<(j+1)->ah w v 0 K) (n+m-1) w v,Nz (j+1)]
def ye:bj:=⟨[0,1,4,9,10,11,12,13,14,15,16,17,18,19,20,21,22,23,24,25],[(.slot 26,.i),(.slot 5,.s)],[(.one 0,15),(.one 1,.bZ [1] 16),(.one 1,.lo 1)],[.closed (.one (.ci .i64 0)),.frm 8,.frm 0],15,[(16,11)]⟩
def yf:List Step:=[bQ [.fact 15,.fact 10] oT (au .lss),
   .base ⟨51,[],[⟨.agg [.s,.b,.s,.b],[(0,0,18),(0,2,19),(2,2,20)]⟩],false⟩,
   .base ⟨0,[.fact 16,.fact 15],[oP 22],.joint [1] 21 (aO 24)⟩,
   .base ⟨0,[.fact 16,.fact 15,.any,.fact 18],[oS 23],.put [] 1 0 21 (eN 44 (.tmp 29) (.tmp 30))⟩,
   bQ [.fact 15,.lit (.ci .i64 1)] [oN 24] (au .add)]
def KN:List Step:=[bQ [.fact 15,.fact 10] oF (au .lss)]
def KO:List Step:=[bQ [.fact 0] [oN 2] (aI 24),
   bQ [.fact 2,.lit (.ci .i64 0)] oF (au .eql),
   bQ [.fact 1] [oN 3] (aI 24),
   bQ [.fact 3,.lit (.ci .i64 0)] oF (au .eql),
   bQ [.fact 0] [oN 4] (aI 24),
   bQ [.fact 1] [oN 5] (aI 24),
   bQ [.fact 4,.fact 5] [oN 6] (au .add),
   bQ [.fact 6,.lit (.ci .i64 1)] [oN 7] (au .sub),
   .base ⟨0,[.fact 7,.fact 7],[oS 8],.loose [] 1 0 (ff 24)⟩,
   .freed (.one (.s 16 0)) 8 9,
   bQ [.fact 9] [oN 10] (aI 24),
   .loop ye [(yf,[.frm 24,.frm 23,.frm 0])] KN,
   bQ [.fact 0] [oN 12] (aI 24),
   .loop yc [(yd,[.frm 20,.frm 19,.frm 0])] KL,
   .base ⟨53,[.fact 13],[oS 14],.c9 [1] false⟩]
def KP:List Out:=[oS 0,oS 1]
theorem KQ {q r:Nat->Rat}{n m k l K:Nat} (hn:n<=400000) (hm:m<=400000) (hk:k<=8000) (hl:l<=8000) (hK:K<=8000) (hK1:1<=K) (h1:0<n) (h2:0<m) (hB:∀j i p,j<n->i<=m->Bd (bH q r m j i p).num.natAbs K∧Bd (bH q r m j i p).den K):ai (ph (iG q r n m k l K)) Tryz.prog ⟨10,[.fact 0,.fact 1],[oS 14],false⟩:=by
 skip
 exact bg KP [oS 14] KO Tryz.func10 (by kernel_rfl)
  (lB (a9 (F:=(Df q k)) Tryz.underlying24 ad rfl)
   (lB (qK ad)
   (lB (a9 (F:=(Df r l)) Tryz.underlying24 ad rfl)
   (lB (qK ad)
   (lB (a9 (F:=(Df q k)) Tryz.underlying24 ad rfl)
   (lB (a9 (F:=(Df r l)) Tryz.underlying24 ad rfl)
   (lB (mg ad ad (by omega) rfl (by omega) (by omega))
   (lB (cI ad (by omega) rfl (by omega) (by omega))
   (lB (Id (n:=(n+m-1)) (F:=(fun ι w v=>ι<0->ah w v 0 K)) ad (by omega) (fun i w h=>absurd h (by omega)) rfl)
   (j8 (j9 (e:=44) (sz:=4) (n:=(n+m-1)) (F:=(fun ι w v=>ι<0->ah w v 0 K)) ad rfl)
   (lB (ke (n:=(n+m-1)) Tryz.underlying24 ad rfl)
   (bN (counted (n+m-1) (fun j=>ph (iG q r n m k l K ++ KM n m K j)) (fun _=>0) (fun j p hp=>bO (show p<(iG q r n m k l K).length from hp)) ⟨fun _=>rfl,ad,bp,trivial⟩ (fun j hj=>by
   skip
   exact ⟨(yf,[.frm 24,.frm 23,.frm 0]),rfl,⟨ad,ad,bp,trivial⟩,(lB (cA ad ad)
   (lB (um rfl rfl rfl)
   (lB (dY (i:=j) (sz:=4) (n:=(n+m-1)) (F:=(fun ι w v=>ι<j->ah w v 0 K)) Tryz.underlying24 (by kernel_rfl) (fun _ _ h=>am.arr h) ad (by omega) rfl rfl)
   (lB (fB (i:=j) (n:=(n+m-1)) (F:=(fun ι w v=>ι<j->ah w v 0 K)) (F':=(fun ι w v=>ι<(j+1)->ah w v 0 K)) (G:=Dw (aD 0 1) 6) (.tmp 29) (.tmp 30) (by kernel_rfl) ad ad (by omega) ad rfl (fun _ _ h=>ah.cells h) (fun _ _ _ _ g h=>KH.kp h g) (fun _ _ _ g h=>ah.kp h g) (fun a w v ha h hi=>h (by omega)) (fun w v h _=>ah.fD (h.eq KD) (Nat.pow_pos (by omega)) (pi hK1)) rfl)
   (lB (cO ad (by omega) rfl (by omega) (by omega))
   aC)))))⟩)
   (lB (tlF ad ad)
   aC)
   (fun q hq w v h=>by
    simp only [ye,List.mem_cons,List.not_mem_nil,or_false] at hq
    rcases hq with rfl
    ·exact (fun h=>am.to (sz:=4) (e:=44) (n:=(n+m-1)) (F:=(fun ι w v=>ι<(n+m-1)->ah w v 0 K)) (G:=(Df (b8 q r m 0) K)) h fun a w v ha h=>h ha) h)) (lB (a9 (F:=(Df q k)) Tryz.underlying24 ad rfl)
   (bN (counted n (fun j=>ph (iG q r n m k l K ++ rq q r n m K j)) (fun _=>0) (fun j p hp=>bO (show p<(iG q r n m k l K).length from hp)) ⟨fun _=>rfl,ad,bp,trivial⟩ (fun j hj=>by
   skip
   exact ⟨(yd,[.frm 20,.frm 19,.frm 0]),rfl,⟨ad,ad,bp,trivial⟩,(lB (cA ad ad)
   (lB (a9 (F:=(Df r l)) Tryz.underlying24 ad rfl)
   (bN (counted m (fun i=>ph ((iG q r n m k l K ++ rq q r n m K j) ++ KJ q r n m k l K j i)) (fun _=>0) (fun i p hp=>bO (show p<(iG q r n m k l K ++ rq q r n m K j).length from hp)) ⟨fun _=>rfl,fun _ _ h=>am.to (sz:=4) (e:=44) (n:=(n+m-1)) (F:=(fun ι w v=>ah w v (b8 q r m j ι) K)) (G:=(fun ι w v=>ah w v (bH q r m j 0 ι) K)) h fun a w v ha h=>by rw [KE];exact h,bp,trivial⟩ (fun i hi=>by
   skip
   exact ⟨(x9,[.frm 42,.frm 41,.frm 0]),rfl,⟨ad,ad,bp,trivial⟩,(lB (cA ad ad)
   (lB (mg ad ad (by omega) rfl (by omega) (by omega))
   (lB (mg ad ad (by omega) rfl (by omega) (by omega))
   (lB (dY (i:=(j+i)) (sz:=4) (n:=(n+m-1)) (F:=(Df (bH q r m j i) K)) Tryz.underlying24 (by kernel_rfl) (fun _ _ h=>am.arr h) ad (by omega) rfl rfl)
   (lB (bK (sz:=4) (F:=Dw (bH q r m j i (j+i)) K) (by kernel_rfl) (by kernel_rfl) ad (fun _ _ _ g h=>ah.kp h g) (fun _ _ h=>ah.is h) rfl)
   (lB (b6 (i:=j) (F:=(Df q k)) Tryz.underlying24 (by kernel_rfl) ad ad (by omega) rfl)
   (lB (bK (sz:=4) (F:=Dw (q j) k) (by kernel_rfl) (by kernel_rfl) ad (fun _ _ _ g h=>ah.kp h g) (fun _ _ h=>ah.is h) rfl)
   (lB (b6 (i:=i) (F:=(Df r l)) Tryz.underlying24 (by kernel_rfl) ad ad (by omega) rfl)
   (lB (bK (sz:=4) (F:=Dw (r i) l) (by kernel_rfl) (by kernel_rfl) ad (fun _ _ _ g h=>ah.kp h g) (fun _ _ h=>ah.is h) rfl)
   (lB (uG tS tS rfl rfl rfl (by omega) rfl)
   (lB (dZ [1] (ur tS tS rfl rfl rfl (by omega) rfl))
   (lB (dY (i:=(j+i)) (sz:=4) (n:=(n+m-1)) (F:=(Df (bH q r m j i) K)) Tryz.underlying24 (by kernel_rfl) (fun _ _ h=>am.arr h) ad (by omega) rfl rfl)
   (lB (fB (i:=(j+i)) (n:=(n+m-1)) (F:=(fun ι w v=>ah w v (bH q r m j i ι) K)) (F':=(fun ι w v=>ah w v (bH q r m j (i+1) ι) K)) (G:=Dw ((bH q r m j i (j+i))+((q j)*(r i))) (3*(K+(2*(k+l)+2))+3)) (.tmp 44) (.tmp 47) (by kernel_rfl) ad ad (by omega) ad rfl (fun _ _ h=>ah.cells h) (fun _ _ _ _ g h=>ah.kp h g) (fun _ _ _ g h=>ah.kp h g) (fun a w v ha h=>by rw [KF ha];exact h) (fun w v h=>ah.fD (h.eq KG) (hB j (i+1) (j+i) (by omega) (by omega)).1 (hB j (i+1) (j+i) (by omega) (by omega)).2) rfl)
   (lB (cO ad (by omega) rfl (by omega) (by omega))
   aC))))))))))))))⟩)
   (lB (tlF ad ad)
   aC)
   (fun q hq w v h=>by
    simp only [x8,List.mem_cons,List.not_mem_nil,or_false] at hq
    rcases hq with rfl
    ·exact (fun h=>h) h)) (lB (cO ad (by omega) rfl (by omega) (by omega))
   aC))))⟩)
   (lB (tlF ad ad)
   aC)
   (fun q hq w v h=>by
    simp only [yc,List.mem_cons,List.not_mem_nil,or_false] at hq
    rcases hq with rfl
    ·exact (fun h=>h) h)) (lB (dZ [1] (kD (q:=(fun ι=>b8 q r m n ι)) (n:=(n+m-1)) (k:=K) (fun _ _ h=>am.rw h) rfl (by omega) (by omega)))
   aC)))))))))))))))
  (aK [.fact 0 (.one (.s)),.fact 1 (.one (.s))] ⟨Rw.Is 4 (Df q k) n,Rw.Is 4 (Df r l) m,trivial⟩) bh
def KR (q r:Nat->Rat) (n m k l:Nat):List WP:=[Rw 4 (Df q k) n,Rw 4 (Df r l) m,Nz n]
def KS:List Step:=[bQ [.fact 0] [oN 2] (aI 24),
   bQ [.fact 2,.lit (.ci .i64 0)] oT (au .eql)]
def KT:List Out:=[oS 0,oS 1]
theorem KU {q r:Nat->Rat}{n m k l:Nat} (h1:n=0):ai (ph (KR q r n m k l)) Tryz.prog ⟨10,[.fact 0,.fact 1],[⟨.one (.lit (.nl)),[]⟩],false⟩:=by
 skip
 exact bg KT [⟨.one (.lit (.nl)),[]⟩] KS Tryz.func10 (by kernel_rfl)
  (lB (a9 (F:=(Df q k)) Tryz.underlying24 ad rfl)
   (lB (wR ad)
   aC))
  (aK [.fact 0 (.one (.s)),.fact 1 (.one (.s))] ⟨Rw.Is 4 (Df q k) n,Rw.Is 4 (Df r l) m,trivial⟩) bh
def KV (q r:Nat->Rat) (n m k l:Nat):List WP:=[Rw 4 (Df q k) n,Rw 4 (Df r l) m,Nz n,Nz m]
def KW:List Step:=[bQ [.fact 0] [oN 2] (aI 24),
   bQ [.fact 2,.lit (.ci .i64 0)] oF (au .eql),
   bQ [.fact 1] [oN 3] (aI 24),
   bQ [.fact 3,.lit (.ci .i64 0)] oT (au .eql)]
def KX:List Out:=[oS 0,oS 1]
theorem KY {q r:Nat->Rat}{n m k l:Nat} (h1:0<n) (h2:m=0):ai (ph (KV q r n m k l)) Tryz.prog ⟨10,[.fact 0,.fact 1],[⟨.one (.lit (.nl)),[]⟩],false⟩:=by
 skip
 exact bg KX [⟨.one (.lit (.nl)),[]⟩] KW Tryz.func10 (by kernel_rfl)
  (lB (a9 (F:=(Df q k)) Tryz.underlying24 ad rfl)
   (lB (qK ad)
   (lB (a9 (F:=(Df r l)) Tryz.underlying24 ad rfl)
   (lB (wR ad)
   aC))))
  (aK [.fact 0 (.one (.s)),.fact 1 (.one (.s))] ⟨Rw.Is 4 (Df q k) n,Rw.Is 4 (Df r l) m,trivial⟩) bh
section
variable {Φ:PH}{p y x n m k l K N:Nat}{q r:Nat->Rat}{c:Rat}
theorem yg {X:Nat->Prop}{w:World}{us:List Value}{sz:Nat}{F:PH} (hx:Φ x=Rw sz F 0) (h:bc Φ X w [⟨.one (.lit .nl),[]⟩] us):bc Φ X w [oS x] us:=by
 match us,h with
 | [u],h=>
  have e:u = .slice none 0 0:=h.1.1.1
  subst e
  exact cH ⟨⟨_,_,_,rfl⟩,fun _ h=>by cases h⟩ hx fun w1 _=>Rw.nil _ _ _
theorem Ci (hp:∀w v,Φ p w v->Rw 4 (Df q k) n w v) (hy:∀w v,Φ y w v->Rw 4 (Df r l) m w v) (hx:Φ x=Rw 4 (Df (b8 q r m n) K) N) (hn:n<=400000) (hm:m<=400000) (hk:k<=8000) (hl:l<=8000) (hK:K<=8000) (hK1:1<=K) (hB:∀j i p,j<n->i<=m->Bd (bH q r m j i p).num.natAbs K∧Bd (bH q r m j i p).den K) (hN:(if n=0∨m=0 then 0 else tl (fun i=>(b8 q r m n i).num) (n+m-1))=N):ai Φ Tryz.prog ⟨10,[.fact p,.fact y],[oS x],false⟩:=fun X w vs hX ha=>by
 rcases Nat.eq_zero_or_pos n with h1 | h1
 ·rw [if_pos (.inl h1)] at hN;subst hN
  exact (bi (outs:=[⟨.one (.lit .nl),[]⟩]) (Φ:=Φ) (ar:=[.fact p,.fact y]) (KU (q:=q) (r:=r) (n:=n) (m:=m) (k:=k) (l:=l) h1) ⟨hp,hy,trivial⟩ ⟨⟨rfl,trivial⟩,trivial⟩ X w vs hX ha).mono fun e w' ⟨hg,us,he,h2⟩=>⟨hg,us,he,yg hx h2⟩
 ·rcases Nat.eq_zero_or_pos m with h2 | h2
  ·rw [if_pos (.inr h2)] at hN;subst hN
   exact (bi (outs:=[⟨.one (.lit .nl),[]⟩]) (Φ:=Φ) (ar:=[.fact p,.fact y]) (KY (q:=q) (r:=r) (n:=n) (m:=m) (k:=k) (l:=l) h1 h2) ⟨hp,hy,trivial⟩ ⟨⟨rfl,trivial⟩,trivial⟩ X w vs hX ha).mono fun e w' ⟨hg,us,he,h2⟩=>⟨hg,us,he,yg hx h2⟩
  ·rw [if_neg (by omega)] at hN
   exact bi (Φ:=Φ) (ar:=[.fact p,.fact y]) (outs:=[⟨.one .s,[(0,0,x)]⟩]) (KQ (q:=q) (r:=r) (n:=n) (m:=m) (k:=k) (l:=l) hn hm hk hl hK hK1 h1 h2 hB) ⟨hp,hy,trivial⟩ ⟨⟨rfl,⟨rfl,rfl,fun _ _ h=>hx▸hN▸h⟩,trivial⟩,trivial⟩ X w vs hX ha
end
end Go.Proofs.YthmcngjhkmpneaaGreat.Sym
