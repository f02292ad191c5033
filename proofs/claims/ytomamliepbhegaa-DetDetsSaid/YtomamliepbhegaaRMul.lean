/- The reference's product of polynomials over the rationals. -/
import Derived.Test.YtomamliepbhegaaDivX
set_option maxRecDepth 100000
namespace Go.Proofs.Ytomamliepbhegaa.Sym
open Go.RowKit
theorem OA:aN 0 1=0:=by decide +kernel
def KZ (q r:Nat->Rat) (l:Nat):Nat->Nat->Rat
 | 0,_=>0
 | j+1,p=>KZ q r l j p+(if j<=p∧p<j+l then q j*r (p-j) else 0)
def KX (q r:Nat->Rat) (l j i p:Nat):Rat:=KZ q r l j p+(if j<=p∧p<j+i then q j*r (p-j) else 0)
section
variable {q r:Nat->Rat}{l j i p:Nat}
theorem OC:KX q r l j 0 p=KZ q r l j p:=by
 unfold KX
 rw [if_neg (by omega),Rat.add_zero]
theorem OD (h:p≠j+i):KX q r l j (i+1) p=KX q r l j i p:=by
 unfold KX
 split <;> split <;> first | rfl | omega
theorem OE:KX q r l j i (j+i)+q j*r i=KX q r l j (i+1) (j+i):=by
 unfold KX
 rw [if_neg (by omega),if_pos (by omega),show j+i-j=i by omega,Rat.add_zero]
end
theorem Ga.kp {j K:Nat}{w w1:World}{v:Value}{i:Nat} (h:i<j->am w v 0 K) (g:Kp w w1):i<j->am w1 v 0 K:=fun hi=>am.kp (h hi) g
def gV (q r:Nat->Rat) (n m k l K:Nat):List WP:=[Rw 4 (Df q k) n,Rw 4 (Df r l) m,Nz n,Nz m,Nz n,Nz m,Nz (n+m),Nz (n+m-1),fun w v=>aC 4 63 (fun ι w v=>ι<0->am w v 0 K) (n+m-1) w v,Lm (n+m-1),Nz (n+m-1),aC 4 63 (Df (KZ q r m 0) K) (n+m-1),Nz n,aC 4 63 (Df (KZ q r m n) K) (n+m-1),Rw 4 (Df (KZ q r m n) K) (tl (fun ι=>(KZ q r m n ι).num) (n+m-1))]
def Gb (q r:Nat->Rat) (n m k l K:Nat) (j i:Nat):List WP:=[Nz i,aC 4 63 (Df (KX q r m j i) K) (n+m-1),fun _ _=>True,Nz (j+i),Nz (j+i),At 4,Ptr 4 (Dw (KX q r m j i (j+i)) K),Dw (KX q r m j i (j+i)) K,Ptr 4 (Dw (q j) k),Dw (q j) k,Ptr 4 (Dw (r i) l),Dw (r i) l,Dw ((q j)*(r i)) (2*(k+l)+2),fun w v=>af w v (((q j)*(r i)).num) (2*(k+l)+2),fun w v=>af w v (((q j)*(r i)).den:Int) (2*(k+l)+2),Dw ((KX q r m j i (j+i))+((q j)*(r i))) (3*(K+(2*(k+l)+2))+3),fun w v=>af w v (((KX q r m j i (j+i))+((q j)*(r i))).num) (3*(K+(2*(k+l)+2))+3),fun w v=>af w v (((KX q r m j i (j+i))+((q j)*(r i))).den:Int) (3*(K+(2*(k+l)+2))+3),At 4,Ptr 4 (Dw (KX q r m j i (j+i)) K),fun w v=>aC 4 63 (fun ι w v=>am w v (KX q r m j (i+1) ι) K) (n+m-1) w v,Nz (i+1)]
def uN:bf:=⟨[0,1,4,7,9,10,11,12,13,14,15,16,17,18,19,20,21,22,23,24,25,26,27,34,35,36,37,38,39,40],[(.slot 41,.i),(.slot 5,.s)],[(.one 0,21),(.one 1,.bT [1] 22),(.one 1,.lo 1)],[.closed (.one (.ci .i64 0)),.frm 16,.frm 0],21,[(22,19)]⟩
def uO:List Step:=[bQ [.fact 21,.fact 18] oT (ai .lss),
   bQ [.fact 15,.fact 21] [oN 24] (ai .add),
   bQ [.fact 15,.fact 21] [oN 25] (ai .add),
   .base ⟨0,[.fact 22,.fact 25],[oP 27],.joint [1] 26 (aI 36)⟩,
   .base ⟨0,[.fact 27],[oQ 28],.kb [1] (aL 63)⟩,
   bQ [.fact 0,.fact 15] [oP 29] (aI 36),
   bQ [.fact 29] [oQ 30] (aL 63),
   bQ [.fact 1,.fact 21] [oP 31] (aI 36),
   bQ [.fact 31] [oQ 32] (aL 63),
   .base ⟨60,[.fact 30,.fact 32],[⟨.agg [.s,.b,.s,.b],[(0,0,33),(0,2,34),(2,2,35)]⟩],false⟩,
   .base ⟨59,[.fact 28,.fact 33],[⟨.agg [.s,.b,.s,.b],[(0,0,36),(0,2,37),(2,2,38)]⟩],.df [1] false⟩,
   .base ⟨0,[.fact 22,.fact 24],[oP 40],.joint [1] 39 (aI 36)⟩,
   .base ⟨0,[.fact 22,.fact 24,.any,.fact 36],[oS 41],.put [] 1 0 39 (dN 63 (.tmp 44) (.tmp 47))⟩,
   bQ [.fact 21,.lit (.ci .i64 1)] [oN 42] (ai .add)]
def Gc:List Step:=[bQ [.fact 21,.fact 18] oF (ai .lss)]
def Mk (q r:Nat->Rat) (n m K:Nat) (j:Nat):List WP:=[Nz j,aC 4 63 (Df (KZ q r m j) K) (n+m-1),fun _ _=>True,Nz m,aC 4 63 (Df (KX q r m j m) K) (n+m-1),Nz (j+1)]
def uP:bf:=⟨[0,1,4,9,10,11,12,13,14,15,16,17,18,19,20,21,22,23,24,25,26,27,34,35],[(.slot 36,.i),(.slot 5,.s)],[(.one 0,15),(.one 1,.bT [1] 16),(.one 1,.lo 1)],[.closed (.one (.ci .i64 0)),.frm 11,.frm 0],15,[(16,13)]⟩
def uQ:List Step:=[bQ [.fact 15,.fact 12] oT (ai .lss),
   bQ [.fact 1] [oN 18] (aD 36),
   .loop uN [(uO,[.frm 42,.frm 41,.frm 0])] Gc,
   bQ [.fact 15,.lit (.ci .i64 1)] [oN 20] (ai .add)]
def Gd:List Step:=[bQ [.fact 15,.fact 12] oF (ai .lss)]
def Ge (n m K:Nat) (j:Nat):List WP:=[Nz j,fun w v=>aC 4 63 (fun ι w v=>ι<j->am w v 0 K) (n+m-1) w v,fun _ _=>True,Dw (aN 0 1) 6,fun w v=>af w v ((aN 0 1).num) 6,fun w v=>af w v ((aN 0 1).den:Int) 6,At 4,fun w v=>Ptr 4 (fun w v=>j<j->am w v 0 K) w v,fun w v=>aC 4 63 (fun ι w v=>ι<(j+1)->am w v 0 K) (n+m-1) w v,Nz (j+1)]
def uR:bf:=⟨[0,1,4,9,10,11,12,13,14,15,16,17,18,19,20,21,22,23,24,25],[(.slot 26,.i),(.slot 5,.s)],[(.one 0,15),(.one 1,.bT [1] 16),(.one 1,.lo 1)],[.closed (.one (.ci .i64 0)),.frm 8,.frm 0],15,[(16,11)]⟩
def uS:List Step:=[bQ [.fact 15,.fact 10] oT (ai .lss),
   .base ⟨58,[],[⟨.agg [.s,.b,.s,.b],[(0,0,18),(0,2,19),(2,2,20)]⟩],false⟩,
   .base ⟨0,[.fact 16,.fact 15],[oP 22],.joint [1] 21 (aI 36)⟩,
   .base ⟨0,[.fact 16,.fact 15,.any,.fact 18],[oS 23],.put [] 1 0 21 (dN 63 (.tmp 29) (.tmp 30))⟩,
   bQ [.fact 15,.lit (.ci .i64 1)] [oN 24] (ai .add)]
def Gf:List Step:=[bQ [.fact 15,.fact 10] oF (ai .lss)]
def Gg:List Step:=[bQ [.fact 0] [oN 2] (aD 36),
   bQ [.fact 2,.lit (.ci .i64 0)] oF (ai .eql),
   bQ [.fact 1] [oN 3] (aD 36),
   bQ [.fact 3,.lit (.ci .i64 0)] oF (ai .eql),
   bQ [.fact 0] [oN 4] (aD 36),
   bQ [.fact 1] [oN 5] (aD 36),
   bQ [.fact 4,.fact 5] [oN 6] (ai .add),
   bQ [.fact 6,.lit (.ci .i64 1)] [oN 7] (ai .sub),
   .base ⟨0,[.fact 7,.fact 7],[oS 8],.loose [] 1 0 (dZ 36)⟩,
   .freed (.one (.s 16 0)) 8 9,
   bQ [.fact 9] [oN 10] (aD 36),
   .loop uR [(uS,[.frm 24,.frm 23,.frm 0])] Gf,
   bQ [.fact 0] [oN 12] (aD 36),
   .loop uP [(uQ,[.frm 20,.frm 19,.frm 0])] Gd,
   .base ⟨49,[.fact 13],[oS 14],.df [1] false⟩]
def Gh:List Out:=[oS 0,oS 1]
theorem Gi {q r:Nat->Rat}{n m k l K:Nat} (hn:n<=400000) (hm:m<=400000) (hk:k<=8000) (hl:l<=8000) (hK:K<=8000) (hK1:1<=K) (h1:0<n) (h2:0<m) (hB:∀j i p,j<n->i<=m->Bd (KX q r m j i p).num.natAbs K∧Bd (KX q r m j i p).den K):aj (ph (gV q r n m k l K)) Try.prog ⟨32,[.fact 0,.fact 1],[oS 14],false⟩:=by
 skip
 exact aR Gh [oS 14] Gg Try.func32 (by kernel_rfl)
  (lB (aG (F:=(Df q k)) Try.underlying36 aa rfl)
   (lB (iO aa)
   (lB (aG (F:=(Df r l)) Try.underlying36 aa rfl)
   (lB (iO aa)
   (lB (aG (F:=(Df q k)) Try.underlying36 aa rfl)
   (lB (aG (F:=(Df r l)) Try.underlying36 aa rfl)
   (lB (cS aa aa (by omega) rfl (by omega) (by omega))
   (lB (Lc aa (by omega) rfl (by omega) (by omega))
   (lB (De (n:=(n+m-1)) (F:=(fun ι w v=>ι<0->am w v 0 K)) aa (by omega) (fun i w h=>absurd h (by omega)) rfl)
   (jA (og (e:=63) (sz:=4) (n:=(n+m-1)) (F:=(fun ι w v=>ι<0->am w v 0 K)) aa rfl)
   (lB (jB (n:=(n+m-1)) Try.underlying36 aa rfl)
   (bI (counted (n+m-1) (fun j=>ph (gV q r n m k l K ++ Ge n m K j)) (fun _=>0) (fun j p hp=>bJ (show p<(gV q r n m k l K).length from hp)) ⟨fun _=>rfl,aa,aW,trivial⟩ (fun j hj=>by
   skip
   exact ⟨(uS,[.frm 24,.frm 23,.frm 0]),rfl,⟨aa,aa,aW,trivial⟩,(lB (bm aa aa)
   (lB (qI rfl rfl rfl)
   (lB (fh (i:=j) (sz:=4) (n:=(n+m-1)) (F:=(fun ι w v=>ι<j->am w v 0 K)) Try.underlying36 (by kernel_rfl) (fun _ _ h=>aC.arr h) aa (by omega) rfl rfl)
   (lB (ge (i:=j) (n:=(n+m-1)) (F:=(fun ι w v=>ι<j->am w v 0 K)) (F':=(fun ι w v=>ι<(j+1)->am w v 0 K)) (G:=Dw (aN 0 1) 6) (.tmp 29) (.tmp 30) (by kernel_rfl) aa aa (by omega) aa rfl (fun _ _ h=>am.cells h) (fun _ _ _ _ g h=>Ga.kp h g) (fun _ _ _ g h=>am.kp h g) (fun a w v ha h hi=>h (by omega)) (fun w v h _=>am.fS (h.eq OA) (Nat.pow_pos (by omega)) (jv hK1)) rfl)
   (lB (bt aa (by omega) rfl (by omega) (by omega))
   aA)))))⟩)
   (lB (tlF aa aa)
   aA)
   (fun q hq w v h=>by
    simp only [uR,List.mem_cons,List.not_mem_nil,or_false] at hq
    rcases hq with rfl
    ·exact (fun h=>aC.to (sz:=4) (e:=63) (n:=(n+m-1)) (F:=(fun ι w v=>ι<(n+m-1)->am w v 0 K)) (G:=(Df (KZ q r m 0) K)) h fun a w v ha h=>h ha) h)) (lB (aG (F:=(Df q k)) Try.underlying36 aa rfl)
   (bI (counted n (fun j=>ph (gV q r n m k l K ++ Mk q r n m K j)) (fun _=>0) (fun j p hp=>bJ (show p<(gV q r n m k l K).length from hp)) ⟨fun _=>rfl,aa,aW,trivial⟩ (fun j hj=>by
   skip
   exact ⟨(uQ,[.frm 20,.frm 19,.frm 0]),rfl,⟨aa,aa,aW,trivial⟩,(lB (bm aa aa)
   (lB (aG (F:=(Df r l)) Try.underlying36 aa rfl)
   (bI (counted m (fun i=>ph ((gV q r n m k l K ++ Mk q r n m K j) ++ Gb q r n m k l K j i)) (fun _=>0) (fun i p hp=>bJ (show p<(gV q r n m k l K ++ Mk q r n m K j).length from hp)) ⟨fun _=>rfl,fun _ _ h=>aC.to (sz:=4) (e:=63) (n:=(n+m-1)) (F:=(fun ι w v=>am w v (KZ q r m j ι) K)) (G:=(fun ι w v=>am w v (KX q r m j 0 ι) K)) h fun a w v ha h=>by rw [OC];exact h,aW,trivial⟩ (fun i hi=>by
   skip
   exact ⟨(uO,[.frm 42,.frm 41,.frm 0]),rfl,⟨aa,aa,aW,trivial⟩,(lB (bm aa aa)
   (lB (cS aa aa (by omega) rfl (by omega) (by omega))
   (lB (cS aa aa (by omega) rfl (by omega) (by omega))
   (lB (fh (i:=(j+i)) (sz:=4) (n:=(n+m-1)) (F:=(Df (KX q r m j i) K)) Try.underlying36 (by kernel_rfl) (fun _ _ h=>aC.arr h) aa (by omega) rfl rfl)
   (lB (cw (sz:=4) (F:=Dw (KX q r m j i (j+i)) K) (by kernel_rfl) (by kernel_rfl) aa (fun _ _ _ g h=>am.kp h g) (fun _ _ h=>am.is h) rfl)
   (lB (bc (i:=j) (F:=(Df q k)) Try.underlying36 (by kernel_rfl) aa aa (by omega) rfl)
   (lB (cw (sz:=4) (F:=Dw (q j) k) (by kernel_rfl) (by kernel_rfl) aa (fun _ _ _ g h=>am.kp h g) (fun _ _ h=>am.is h) rfl)
   (lB (bc (i:=i) (F:=(Df r l)) Try.underlying36 (by kernel_rfl) aa aa (by omega) rfl)
   (lB (cw (sz:=4) (F:=Dw (r i) l) (by kernel_rfl) (by kernel_rfl) aa (fun _ _ _ g h=>am.kp h g) (fun _ _ h=>am.is h) rfl)
   (lB (qT tS tS rfl rfl rfl (by omega) rfl)
   (lB (eA [1] (qM tS tS rfl rfl rfl (by omega) rfl))
   (lB (fh (i:=(j+i)) (sz:=4) (n:=(n+m-1)) (F:=(Df (KX q r m j i) K)) Try.underlying36 (by kernel_rfl) (fun _ _ h=>aC.arr h) aa (by omega) rfl rfl)
   (lB (ge (i:=(j+i)) (n:=(n+m-1)) (F:=(fun ι w v=>am w v (KX q r m j i ι) K)) (F':=(fun ι w v=>am w v (KX q r m j (i+1) ι) K)) (G:=Dw ((KX q r m j i (j+i))+((q j)*(r i))) (3*(K+(2*(k+l)+2))+3)) (.tmp 44) (.tmp 47) (by kernel_rfl) aa aa (by omega) aa rfl (fun _ _ h=>am.cells h) (fun _ _ _ _ g h=>am.kp h g) (fun _ _ _ g h=>am.kp h g) (fun a w v ha h=>by rw [OD ha];exact h) (fun w v h=>am.fS (h.eq OE) (hB j (i+1) (j+i) (by omega) (by omega)).1 (hB j (i+1) (j+i) (by omega) (by omega)).2) rfl)
   (lB (bt aa (by omega) rfl (by omega) (by omega))
   aA))))))))))))))⟩)
   (lB (tlF aa aa)
   aA)
   (fun q hq w v h=>by
    simp only [uN,List.mem_cons,List.not_mem_nil,or_false] at hq
    rcases hq with rfl
    ·exact (fun h=>h) h)) (lB (bt aa (by omega) rfl (by omega) (by omega))
   aA))))⟩)
   (lB (tlF aa aa)
   aA)
   (fun q hq w v h=>by
    simp only [uP,List.mem_cons,List.not_mem_nil,or_false] at hq
    rcases hq with rfl
    ·exact (fun h=>h) h)) (lB (eA [1] (jw (q:=(fun ι=>KZ q r m n ι)) (n:=(n+m-1)) (k:=K) (fun _ _ h=>aC.rw h) rfl (by omega) (by omega)))
   aA)))))))))))))))
  (aJ [.fact 0 (.one (.s)),.fact 1 (.one (.s))] ⟨Rw.Is 4 (Df q k) n,Rw.Is 4 (Df r l) m,trivial⟩) bg
def Gj (q r:Nat->Rat) (n m k l:Nat):List WP:=[Rw 4 (Df q k) n,Rw 4 (Df r l) m,Nz n]
def Gk:List Step:=[bQ [.fact 0] [oN 2] (aD 36),
   bQ [.fact 2,.lit (.ci .i64 0)] oT (ai .eql)]
def Gl:List Out:=[oS 0,oS 1]
theorem Gm {q r:Nat->Rat}{n m k l:Nat} (h1:n=0):aj (ph (Gj q r n m k l)) Try.prog ⟨32,[.fact 0,.fact 1],[⟨.one (.lit (.nl)),[]⟩],false⟩:=by
 skip
 exact aR Gl [⟨.one (.lit (.nl)),[]⟩] Gk Try.func32 (by kernel_rfl)
  (lB (aG (F:=(Df q k)) Try.underlying36 aa rfl)
   (lB (lR aa)
   aA))
  (aJ [.fact 0 (.one (.s)),.fact 1 (.one (.s))] ⟨Rw.Is 4 (Df q k) n,Rw.Is 4 (Df r l) m,trivial⟩) bg
def Gn (q r:Nat->Rat) (n m k l:Nat):List WP:=[Rw 4 (Df q k) n,Rw 4 (Df r l) m,Nz n,Nz m]
def Gp:List Step:=[bQ [.fact 0] [oN 2] (aD 36),
   bQ [.fact 2,.lit (.ci .i64 0)] oF (ai .eql),
   bQ [.fact 1] [oN 3] (aD 36),
   bQ [.fact 3,.lit (.ci .i64 0)] oT (ai .eql)]
def Gq:List Out:=[oS 0,oS 1]
theorem Gs {q r:Nat->Rat}{n m k l:Nat} (h1:0<n) (h2:m=0):aj (ph (Gn q r n m k l)) Try.prog ⟨32,[.fact 0,.fact 1],[⟨.one (.lit (.nl)),[]⟩],false⟩:=by
 skip
 exact aR Gq [⟨.one (.lit (.nl)),[]⟩] Gp Try.func32 (by kernel_rfl)
  (lB (aG (F:=(Df q k)) Try.underlying36 aa rfl)
   (lB (iO aa)
   (lB (aG (F:=(Df r l)) Try.underlying36 aa rfl)
   (lB (lR aa)
   aA))))
  (aJ [.fact 0 (.one (.s)),.fact 1 (.one (.s))] ⟨Rw.Is 4 (Df q k) n,Rw.Is 4 (Df r l) m,trivial⟩) bg
section
variable {Φ:PH}{p y x n m k l K N:Nat}{q r:Nat->Rat}{c:Rat}
theorem uT {X:Nat->Prop}{w:World}{us:List Value}{sz:Nat}{F:PH} (hx:Φ x=Rw sz F 0) (h:bk Φ X w [⟨.one (.lit .nl),[]⟩] us):bk Φ X w [oS x] us:=by
 match us,h with
 | [u],h=>
  have e:u = .slice none 0 0:=h.1.1.1
  subst e
  exact cm ⟨⟨_,_,_,rfl⟩,fun _ h=>by cases h⟩ hx fun w1 _=>Rw.nil _ _ _
theorem Gt (hp:∀w v,Φ p w v->Rw 4 (Df q k) n w v) (hy:∀w v,Φ y w v->Rw 4 (Df r l) m w v) (hx:Φ x=Rw 4 (Df (KZ q r m n) K) N) (hn:n<=400000) (hm:m<=400000) (hk:k<=8000) (hl:l<=8000) (hK:K<=8000) (hK1:1<=K) (hB:∀j i p,j<n->i<=m->Bd (KX q r m j i p).num.natAbs K∧Bd (KX q r m j i p).den K) (hN:(if n=0∨m=0 then 0 else tl (fun i=>(KZ q r m n i).num) (n+m-1))=N):aj Φ Try.prog ⟨32,[.fact p,.fact y],[oS x],false⟩:=fun X w vs hX ha=>by
 rcases Nat.eq_zero_or_pos n with h1 | h1
 ·rw [if_pos (.inl h1)] at hN;subst hN
  exact (aT (outs:=[⟨.one (.lit .nl),[]⟩]) (Φ:=Φ) (ar:=[.fact p,.fact y]) (Gm (q:=q) (r:=r) (n:=n) (m:=m) (k:=k) (l:=l) h1) ⟨hp,hy,trivial⟩ ⟨⟨rfl,trivial⟩,trivial⟩ X w vs hX ha).mono fun e w' ⟨hg,us,he,h2⟩=>⟨hg,us,he,uT hx h2⟩
 ·rcases Nat.eq_zero_or_pos m with h2 | h2
  ·rw [if_pos (.inr h2)] at hN;subst hN
   exact (aT (outs:=[⟨.one (.lit .nl),[]⟩]) (Φ:=Φ) (ar:=[.fact p,.fact y]) (Gs (q:=q) (r:=r) (n:=n) (m:=m) (k:=k) (l:=l) h1 h2) ⟨hp,hy,trivial⟩ ⟨⟨rfl,trivial⟩,trivial⟩ X w vs hX ha).mono fun e w' ⟨hg,us,he,h2⟩=>⟨hg,us,he,uT hx h2⟩
  ·rw [if_neg (by omega)] at hN
   exact aT (Φ:=Φ) (ar:=[.fact p,.fact y]) (outs:=[⟨.one .s,[(0,0,x)]⟩]) (Gi (q:=q) (r:=r) (n:=n) (m:=m) (k:=k) (l:=l) hn hm hk hl hK hK1 h1 h2 hB) ⟨hp,hy,trivial⟩ ⟨⟨rfl,⟨rfl,rfl,fun _ _ h=>hx▸hN▸h⟩,trivial⟩,trivial⟩ X w vs hX ha
end
end Go.Proofs.Ytomamliepbhegaa.Sym
