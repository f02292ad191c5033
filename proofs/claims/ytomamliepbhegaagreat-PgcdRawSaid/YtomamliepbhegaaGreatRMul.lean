/- The reference's product -/
import Derived.Test.YtomamliepbhegaaGreatDivX
set_option maxRecDepth 100000
namespace Go.Proofs.YtomamliepbhegaaGreat.Sym
open Go.Proofs.Tryz
open Go.RowKit
variable {K k l m n:Nat}{w:World}{q r:Nat->Rat}
theorem aci:aR 0 1=0:=by decide +kernel
def fy (q r:Nat->Rat) (l:Nat):Nat->Nat->Rat
 | 0,_=>0
 | j+1,p=>fy q r l j p+(if j<=p∧p<j+l then q j*r (p-j) else 0)
def dh (q r:Nat->Rat) (l j i p:Nat):Rat:=fy q r l j p+(if j<=p∧p<j+i then q j*r (p-j) else 0)
section
variable {j i p:Nat}
theorem acj:dh q r l j 0 p=fy q r l j p:=by
 unfold dh
 rw [if_neg (by omega),Rat.add_zero]
theorem ack (h:p≠j+i):dh q r l j (i+1) p=dh q r l j i p:=by
 unfold dh
 split <;> split <;> first | rfl | omega
theorem acl:dh q r l j i (j+i)+q j*r i=dh q r l j (i+1) (j+i):=by
 unfold dh
 rw [if_neg (by omega),if_pos (by omega),show j+i-j=i by omega,Rat.add_zero]
end
theorem acm.kp {j:Nat}{w1:World}{v:Value}{i:Nat} (h:i<j->al w v 0 K) (g:Kp w w1):i<j->al w1 v 0 K:=fun hi=>al.kp (h hi) g
def nh (q r:Nat->Rat) (n m k l K:Nat):List WP:=[Rw 4 (Df q k) n,Rw 4 (Df r l) m,Nz n,Nz m,Nz n,Nz m,Nz (n+m),Nz (n+m-1),fun w v=>ah 4 44 (fun ι w v=>ι<0->al w v 0 K) (n+m-1) w v,cw (n+m-1),Nz (n+m-1),ah 4 44 (Df (fy q r m 0) K) (n+m-1),Nz n,ah 4 44 (Df (fy q r m n) K) (n+m-1),Rw 4 (Df (fy q r m n) K) (tl (fun ι=>(fy q r m n ι).num) (n+m-1))]
def acn (q r:Nat->Rat) (n m k l K:Nat) (j i:Nat):List WP:=[Nz i,ah 4 44 (Df (dh q r m j i) K) (n+m-1),fun _ _=>True,Nz (j+i),Nz (j+i),At 4,Ptr 4 (Dw (dh q r m j i (j+i)) K),Dw (dh q r m j i (j+i)) K,Ptr 4 (Dw (q j) k),Dw (q j) k,Ptr 4 (Dw (r i) l),Dw (r i) l,Dw ((q j)*(r i)) (2*(k+l)+2),fun w v=>af w v (((q j)*(r i)).num) (2*(k+l)+2),fun w v=>af w v (((q j)*(r i)).den:Int) (2*(k+l)+2),Dw ((dh q r m j i (j+i))+((q j)*(r i))) (3*(K+(2*(k+l)+2))+3),fun w v=>af w v (((dh q r m j i (j+i))+((q j)*(r i))).num) (3*(K+(2*(k+l)+2))+3),fun w v=>af w v (((dh q r m j i (j+i))+((q j)*(r i))).den:Int) (3*(K+(2*(k+l)+2))+3),At 4,Ptr 4 (Dw (dh q r m j i (j+i)) K),fun w v=>ah 4 44 (fun ι w v=>al w v (dh q r m j (i+1) ι) K) (n+m-1) w v,Nz (i+1)]
def Jv:bf:=⟨[0,1,4,7,9,10,11,12,13,14,15,16,17,18,19,20,21,22,23,24,25,26,27,34,35,36,37,38,39,40],[(.slot 41,.i),(.slot 5,.s)],[(.one 0,21),(.one 1,.bB [1] 22),(.one 1,.lo 1)],[.closed (.one (.ci .i64 0)),.frm 16,.frm 0],21,[(22,19)]⟩
def Jw:List Step:=[bQ [21,18] oT (ak .lss),bQ [15,21] [oN 24] (ak .add),bQ [15,21] [oN 25] (ak .add),.base ⟨0,[22,25],[oP 27],.joint [1] 26 (aH 24)⟩,.base ⟨0,[27],[oQ 28],.fR [1] (aI 44)⟩,bQ [0,15] [oP 29] (aH 24),bQ [29] [oQ 30] (aI 44),bQ [1,21] [oP 31] (aH 24),bQ [31] [oQ 32] (aI 44),.base ⟨28,[30,32],[⟨.agg [.s,.b,.s,.b],[(0,0,33),(0,2,34),(2,2,35)]⟩],false⟩,.base ⟨27,[28,33],[⟨.agg [.s,.b,.s,.b],[(0,0,36),(0,2,37),(2,2,38)]⟩],.cC [1] false⟩,.base ⟨0,[22,24],[oP 40],.joint [1] 39 (aH 24)⟩,.base ⟨0,[22,24,.any,36],[oS 41],.put [] 1 0 39 (dR 44 (.tmp 44) (.tmp 47))⟩,bQ [21,.lit (.ci .i64 1)] [oN 42] (ak .add)]
def aco:List Step:=[bQ [21,18] oF (ak .lss)]
def yF (q r:Nat->Rat) (n m K:Nat) (j:Nat):List WP:=[Nz j,ah 4 44 (Df (fy q r m j) K) (n+m-1),fun _ _=>True,Nz m,ah 4 44 (Df (dh q r m j m) K) (n+m-1),Nz (j+1)]
def Jx:bf:=⟨[0,1,4,9,10,11,12,13,14,15,16,17,18,19,20,21,22,23,24,25,26,27,34,35],[(.slot 36,.i),(.slot 5,.s)],[(.one 0,15),(.one 1,.bB [1] 16),(.one 1,.lo 1)],[.closed (.one (.ci .i64 0)),.frm 11,.frm 0],15,[(16,13)]⟩
def Jy:List Step:=[bQ [15,12] oT (ak .lss),bQ [1] [oN 18] (aC 24),.loop Jv [(Jw,[.frm 42,.frm 41,.frm 0])] aco,bQ [15,.lit (.ci .i64 1)] [oN 20] (ak .add)]
def acp:List Step:=[bQ [15,12] oF (ak .lss)]
def acq (n m K:Nat) (j:Nat):List WP:=[Nz j,fun w v=>ah 4 44 (fun ι w v=>ι<j->al w v 0 K) (n+m-1) w v,fun _ _=>True,Dw (aR 0 1) 6,fun w v=>af w v ((aR 0 1).num) 6,fun w v=>af w v ((aR 0 1).den:Int) 6,At 4,fun w v=>Ptr 4 (fun w v=>j<j->al w v 0 K) w v,fun w v=>ah 4 44 (fun ι w v=>ι<(j+1)->al w v 0 K) (n+m-1) w v,Nz (j+1)]
def Jz:bf:=⟨[0,1,4,9,10,11,12,13,14,15,16,17,18,19,20,21,22,23,24,25],[(.slot 26,.i),(.slot 5,.s)],[(.one 0,15),(.one 1,.bB [1] 16),(.one 1,.lo 1)],[.closed (.one (.ci .i64 0)),.frm 8,.frm 0],15,[(16,11)]⟩
def JA:List Step:=[bQ [15,10] oT (ak .lss),.base ⟨26,[],[⟨.agg [.s,.b,.s,.b],[(0,0,18),(0,2,19),(2,2,20)]⟩],false⟩,.base ⟨0,[16,15],[oP 22],.joint [1] 21 (aH 24)⟩,.base ⟨0,[16,15,.any,18],[oS 23],.put [] 1 0 21 (dR 44 (.tmp 29) (.tmp 30))⟩,bQ [15,.lit (.ci .i64 1)] [oN 24] (ak .add)]
def acr:List Step:=[bQ [15,10] oF (ak .lss)]
def acs:List Step:=[bQ [0] [oN 2] (aC 24),bQ [2,.lit (.ci .i64 0)] oF (ak .eql),bQ [1] [oN 3] (aC 24),bQ [3,.lit (.ci .i64 0)] oF (ak .eql),bQ [0] [oN 4] (aC 24),bQ [1] [oN 5] (aC 24),bQ [4,5] [oN 6] (ak .add),bQ [6,.lit (.ci .i64 1)] [oN 7] (ak .sub),.base ⟨0,[7,7],[oS 8],.loose [] 1 0 (fE 24)⟩,.freed (.one (.s 16 0)) 8 9,bQ [9] [oN 10] (aC 24),.loop Jz [(JA,[.frm 24,.frm 23,.frm 0])] acr,bQ [0] [oN 12] (aC 24),.loop Jx [(Jy,[.frm 20,.frm 19,.frm 0])] acp,.base ⟨29,[13],[oS 14],.cC [1] false⟩]
def act:List Out:=[oS 0,oS 1]
theorem acu  (hn:n<=400000) (hm:m<=400000) (hk:k<=8000) (hl:l<=8000) (hK:K<=8000) (hK1:1<=K) (h1:0<n) (h2:0<m) (hB:∀j i p,j<n->i<=m->Bd (dh q r m j i p).num.natAbs K∧Bd (dh q r m j i p).den K):aj (ph (nh q r n m k l K)) prog ⟨7,[0,1],[oS 14],false⟩:=aV act [oS 14] acs func7 (by kernel_rfl) (lB (aJ (F:=(Df q k)) underlying24 ad rfl) (lB (dg ad) (lB (aJ (F:=(Df r l)) underlying24 ad rfl) (lB (dg ad) (lB (aJ (F:=(Df q k)) underlying24 ad rfl) (lB (aJ (F:=(Df r l)) underlying24 ad rfl) (lB (fj ad ad rfl) (lB (bO ad rfl) (lB (Zv (n:=(n+m-1)) (F:=(fun ι w v=>ι<0->al w v 0 K)) ad (fun i w h=>absurd h (by omega)) rfl) (cR (de (e:=44) (sz:=4) (n:=(n+m-1)) (F:=(fun ι w v=>ι<0->al w v 0 K)) ad rfl) (lB (ch (n:=(n+m-1)) underlying24 ad rfl) (bk (counted (n+m-1) (fun j=>ph (nh q r n m k l K ++ acq n m K j)) (fun _=>0) (fun j p hp=>bm (show p<(nh q r n m k l K).length from hp)) ⟨fun _=>rfl,ad,aP,trivial⟩ (fun j hj=>by
   skip
   exact ⟨(JA,[.frm 24,.frm 23,.frm 0]),rfl,⟨ad,ad,aP,trivial⟩,(lB (bT ad ad) (lB (Bk rfl rfl rfl) (lB (bW (i:=j) (sz:=4) (n:=(n+m-1)) (F:=(fun ι w v=>ι<j->al w v 0 K)) underlying24 (fun _ _ h=>ah.arr h) ad rfl rfl) (lB (fD (i:=j) (n:=(n+m-1)) (F:=(fun ι w v=>ι<j->al w v 0 K)) (F':=(fun ι w v=>ι<(j+1)->al w v 0 K)) (G:=Dw (aR 0 1) 6) (.tmp 29) (.tmp 30) ad ad ad rfl (fun _ _ h=>al.cells h) (fun _ _ _ _ g h=>acm.kp h g) (fun _ _ _ g h=>al.kp h g) (fun a w v ha h hi=>h (by omega)) (fun w v h _=>al.fX (h.eq aci) (Nat.pow_pos (by omega)) (lI (h:=hK1))) rfl) (lB (ce ad rfl) au)))))⟩) (lB (tlF ad ad) au)
   (fun q hq w v h=>by
    simp only [Jz,List.mem_cons,List.not_mem_nil,or_false] at hq
    rcases hq with rfl
    ·exact (fun h=>ah.to (sz:=4) (e:=44) (n:=(n+m-1)) (F:=(fun ι w v=>ι<(n+m-1)->al w v 0 K)) (G:=(Df (fy q r m 0) K)) h fun a w v ha h=>h ha) h)) (lB (aJ (F:=(Df q k)) underlying24 ad rfl) (bk (counted n (fun j=>ph (nh q r n m k l K ++ yF q r n m K j)) (fun _=>0) (fun j p hp=>bm (show p<(nh q r n m k l K).length from hp)) ⟨fun _=>rfl,ad,aP,trivial⟩ (fun j hj=>by
   skip
   exact ⟨(Jy,[.frm 20,.frm 19,.frm 0]),rfl,⟨ad,ad,aP,trivial⟩,(lB (bT ad ad) (lB (aJ (F:=(Df r l)) underlying24 ad rfl) (bk (counted m (fun i=>ph ((nh q r n m k l K ++ yF q r n m K j) ++ acn q r n m k l K j i)) (fun _=>0) (fun i p hp=>bm (show p<(nh q r n m k l K ++ yF q r n m K j).length from hp)) ⟨fun _=>rfl,fun _ _ h=>ah.to (sz:=4) (e:=44) (n:=(n+m-1)) (F:=(fun ι w v=>al w v (fy q r m j ι) K)) (G:=(fun ι w v=>al w v (dh q r m j 0 ι) K)) h fun a w v ha h=>by rw [acj];exact h,aP,trivial⟩ (fun i hi=>by
   skip
   exact ⟨(Jw,[.frm 42,.frm 41,.frm 0]),rfl,⟨ad,ad,aP,trivial⟩,(lB (bT ad ad) (lB (fj ad ad rfl) (lB (fj ad ad rfl) (lB (bW (i:=(j+i)) (sz:=4) (n:=(n+m-1)) (F:=(Df (dh q r m j i) K)) underlying24 (fun _ _ h=>ah.arr h) ad rfl rfl) (lB (cm (sz:=4) (F:=Dw (dh q r m j i (j+i)) K) ad (fun _ _ _ g h=>al.kp h g) (fun _ _ h=>al.is h) rfl) (lB (bz (i:=j) (F:=(Df q k)) underlying24 ad ad rfl) (lB (cm (sz:=4) (F:=Dw (q j) k) ad (fun _ _ _ g h=>al.kp h g) (fun _ _ h=>al.is h) rfl) (lB (bz (i:=i) (F:=(Df r l)) underlying24 ad ad rfl) (lB (cm (sz:=4) (F:=Dw (r i) l) ad (fun _ _ _ g h=>al.kp h g) (fun _ _ h=>al.is h) rfl) (lB (Bg tS tS rfl rfl rfl rfl) (lB (cS [1] (acv tS tS rfl rfl rfl rfl)) (lB (bW (i:=(j+i)) (sz:=4) (n:=(n+m-1)) (F:=(Df (dh q r m j i) K)) underlying24 (fun _ _ h=>ah.arr h) ad rfl rfl) (lB (fD (i:=(j+i)) (n:=(n+m-1)) (F:=(fun ι w v=>al w v (dh q r m j i ι) K)) (F':=(fun ι w v=>al w v (dh q r m j (i+1) ι) K)) (G:=Dw ((dh q r m j i (j+i))+((q j)*(r i))) (3*(K+(2*(k+l)+2))+3)) (.tmp 44) (.tmp 47) ad ad ad rfl (fun _ _ h=>al.cells h) (fun _ _ _ _ g h=>al.kp h g) (fun _ _ _ g h=>al.kp h g) (fun a w v ha h=>by rw [ack ha];exact h) (fun w v h=>al.fX (h.eq acl) (hB j (i+1) (j+i) (by omega) (by omega)).1 (hB j (i+1) (j+i) (by omega) (by omega)).2) rfl) (lB (ce ad rfl) au))))))))))))))⟩) (lB (tlF ad ad) au)
   (fun q hq w v h=>by
    simp only [Jv,List.mem_cons,List.not_mem_nil,or_false] at hq
    rcases hq with rfl
    ·exact (fun h=>h) h)) (lB (ce ad rfl) au))))⟩) (lB (tlF ad ad) au)
   (fun q hq w v h=>by
    simp only [Jx,List.mem_cons,List.not_mem_nil,or_false] at hq
    rcases hq with rfl
    ·exact (fun h=>h) h)) (lB (cS [1] (pT (q:=(fun ι=>fy q r m n ι)) (n:=(n+m-1)) (k:=K) (fun _ _ h=>ah.rw h) rfl)) au)))))))))))))))
  (aK [.fact 0 (.one (.s)),.fact 1 (.one (.s))] ⟨Rw.Is 4 (Df q k) n,Rw.Is 4 (Df r l) m,trivial⟩) bg
def acw (q r:Nat->Rat) (n m k l:Nat):List WP:=[Rw 4 (Df q k) n,Rw 4 (Df r l) m,Nz n]
def acx:List Step:=[bQ [0] [oN 2] (aC 24),bQ [2,.lit (.ci .i64 0)] oT (ak .eql)]
def acy:List Out:=[oS 0,oS 1]
theorem acz  (h1:n=0):aj (ph (acw q r n m k l)) prog ⟨7,[0,1],[⟨.one (.lit (.nl)),[]⟩],false⟩:=aV acy [⟨.one (.lit (.nl)),[]⟩] acx func7 (by kernel_rfl) (lB (aJ (F:=(Df q k)) underlying24 ad rfl) (lB (ic ad) au))
  (aK [.fact 0 (.one (.s)),.fact 1 (.one (.s))] ⟨Rw.Is 4 (Df q k) n,Rw.Is 4 (Df r l) m,trivial⟩) bg
def acA (q r:Nat->Rat) (n m k l:Nat):List WP:=[Rw 4 (Df q k) n,Rw 4 (Df r l) m,Nz n,Nz m]
def acB:List Step:=[bQ [0] [oN 2] (aC 24),bQ [2,.lit (.ci .i64 0)] oF (ak .eql),bQ [1] [oN 3] (aC 24),bQ [3,.lit (.ci .i64 0)] oT (ak .eql)]
def acC:List Out:=[oS 0,oS 1]
theorem acD  (h1:0<n) (h2:m=0):aj (ph (acA q r n m k l)) prog ⟨7,[0,1],[⟨.one (.lit (.nl)),[]⟩],false⟩:=aV acC [⟨.one (.lit (.nl)),[]⟩] acB func7 (by kernel_rfl) (lB (aJ (F:=(Df q k)) underlying24 ad rfl) (lB (dg ad) (lB (aJ (F:=(Df r l)) underlying24 ad rfl) (lB (ic ad) au))))
  (aK [.fact 0 (.one (.s)),.fact 1 (.one (.s))] ⟨Rw.Is 4 (Df q k) n,Rw.Is 4 (Df r l) m,trivial⟩) bg
section
variable {Φ:PH}{p y x N:Nat}{c:Rat}
theorem JB {X:Nat->Prop}{us:List Value}{sz:Nat}{F:PH} (hx:Φ x=Rw sz F 0) (h:bp Φ X w [⟨.one (.lit .nl),[]⟩] us):bp Φ X w [oS x] us:=by
 match us,h with
 | [u],h=>
  have e:u = .slice none 0 0:=h.1.1.1
  subst e
  exact cL ⟨⟨_,_,_,rfl⟩,fun _ h=>by cases h⟩ hx fun w1 _=>Rw.nil _ _ _
theorem acE (hp:∀w v,Φ p w v->Rw 4 (Df q k) n w v) (hy:∀w v,Φ y w v->Rw 4 (Df r l) m w v) (hx:Φ x=Rw 4 (Df (fy q r m n) K) N) (hk:k<=8000) (hl:l<=8000) (hK:K<=8000) (hB:∀j i p,j<n->i<=m->Bd (dh q r m j i p).num.natAbs K∧Bd (dh q r m j i p).den K) (hN:(if n=0∨m=0 then 0 else tl (fun i=>(fy q r m n i).num) (n+m-1))=N) (hn:n<=400000:=by omega) (hm:m<=400000:=by omega) (hK1:1<=K:=by omega):aj Φ prog ⟨7,[.fact p,.fact y],[oS x],false⟩:=fun X w vs hX ha=>by
 rcases Nat.eq_zero_or_pos n with h1 | h1
 ·rw [if_pos (.inl h1)] at hN;subst hN
  exact (aW (outs:=[⟨.one (.lit .nl),[]⟩]) (Φ:=Φ) (ar:=[.fact p,.fact y]) (acz (q:=q) (r:=r) (n:=n) (m:=m) (k:=k) (l:=l) h1) ⟨hp,hy,trivial⟩ ⟨⟨rfl,trivial⟩,trivial⟩ X w vs hX ha).mono fun e w' ⟨hg,us,he,h2⟩=>⟨hg,us,he,JB hx h2⟩
 ·rcases Nat.eq_zero_or_pos m with h2 | h2
  ·rw [if_pos (.inr h2)] at hN;subst hN
   exact (aW (outs:=[⟨.one (.lit .nl),[]⟩]) (Φ:=Φ) (ar:=[.fact p,.fact y]) (acD (q:=q) (r:=r) (n:=n) (m:=m) (k:=k) (l:=l) h1 h2) ⟨hp,hy,trivial⟩ ⟨⟨rfl,trivial⟩,trivial⟩ X w vs hX ha).mono fun e w' ⟨hg,us,he,h2⟩=>⟨hg,us,he,JB hx h2⟩
  ·rw [if_neg (by omega)] at hN
   exact aW (Φ:=Φ) (ar:=[.fact p,.fact y]) (outs:=[⟨.one .s,[(0,0,x)]⟩]) (acu (q:=q) (r:=r) (n:=n) (m:=m) (k:=k) (l:=l) hn hm hk hl hK hK1 h1 h2 hB) ⟨hp,hy,trivial⟩ ⟨⟨rfl,⟨rfl,rfl,fun _ _ h=>hx▸hN▸h⟩,trivial⟩,trivial⟩ X w vs hX ha
end
end Go.Proofs.YtomamliepbhegaaGreat.Sym
