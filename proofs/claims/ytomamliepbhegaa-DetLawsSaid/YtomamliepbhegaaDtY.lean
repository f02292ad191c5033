/- Package det. Layer 13's example. -/
import Derived.Test.YtomamliepbhegaaCatN
import Derived.Test.YtomamliepbhegaaDtW
import Derived.Test.YtomamliepbhegaaDtP
set_option maxRecDepth 100000
namespace Go.Proofs.Ytomamliepbhegaa.Sym
open Go.RowKit
def LX (z:Nat->Nat->Nat->Int) (ln:Nat->Nat->Nat) (n K:Nat):List WP:=[Rw 1 (ah (aw z ln n K)) n,Nz n,Nz n]
def yp (z:Nat->Nat->Nat->Int) (ln:Nat->Nat->Nat) (n K:Nat) (j:Nat):List WP:=[Nz j,Ptr 1 (ah (aw z ln n K) j),Rw 1 (ah (aH (z j) (ln j) K)) n,Nz n,Nz n,Nz (j+1)]
def yq:bf:=⟨[0,2,5,6,7,8,9],[(.slot 10,.i)],[(.one 0,3)],[.closed (.one (.ci .i64 0))],3,[]⟩
def qY:List Step:=[bQ [.fact 3,.fact 2] oT (ai .lss),
   bQ [.fact 0,.fact 3] [oP 4] (aI 24),
   bQ [.fact 4] [oS 5] (aL 22),
   bQ [.fact 5] [oN 6] (aD 22),
   bQ [.fact 0] [oN 7] (aD 24),
   bQ [.fact 6,.fact 7] oF (ai .neq),
   bQ [.fact 3,.lit (.ci .i64 1)] [oN 8] (ai .add)]
def yr:List Step:=[bQ [.fact 3,.fact 2] oF (ai .lss)]
def yu:List Step:=[bQ [.fact 0] [oN 1] (aD 24),
   bQ [.fact 1,.lit (.ci .i64 4)] oF (ai .gtr),
   bQ [.fact 0] [oN 2] (aD 24),
   .loop yq [(qY,[.frm 8])] yr]
def yw:List Out:=[oS 0]
theorem dsq {z:Nat->Nat->Nat->Int}{ln:Nat->Nat->Nat}{n K:Nat} (hn:n<=4):aj (ph (LX z ln n K)) Try.prog ⟨24,[.fact 0],oT,false⟩:=by
 skip
 exact aR yw oT yu Try.func24 (by kernel_rfl)
  (lB (aG (F:=(ah (aw z ln n K))) Try.underlying24 aa rfl)
   (lB (dr aa)
   (lB (aG (F:=(ah (aw z ln n K))) Try.underlying24 aa rfl)
   (bI (counted n (fun j=>ph (LX z ln n K ++ yp z ln n K j)) (fun _=>0) (fun j p hp=>bJ (show p<(LX z ln n K).length from hp)) ⟨fun _=>rfl,trivial⟩ (fun j hj=>by
   skip
   exact ⟨(qY,[.frm 8]),rfl,⟨aa,trivial⟩,(lB (bm aa aa)
   (lB (bc (i:=j) (F:=(ah (aw z ln n K))) Try.underlying24 (by kernel_rfl) aa aa (by omega) rfl)
   (lB (KU (G:=Rw 1 (ah (aH (z j) (ln j) K)) n) (by kernel_rfl) aa (fun _ _ h=>bO h) rfl)
   (lB (aG (F:=(ah (aH (z j) (ln j) K))) Try.underlying22 aa rfl)
   (lB (aG (F:=(ah (aw z ln n K))) Try.underlying24 aa rfl)
   (lB (cM (op:=.neq) aa aa (aS (decide_eq_false (fun h=>h (by omega))) (by simp)))
   (lB (bt aa (by omega) rfl (by omega) (by omega))
   aA)))))))⟩)
   (lB (tlF aa aa)
   aA)
   (fun q hq=>by cases hq)) aA))))
  (aJ [.fact 0 (.one (.s))] ⟨Rw.Is 1 (ah (aw z ln n K)) n,trivial⟩) bg
def Ma (z:Nat->Nat->Nat->Int) (ln:Nat->Nat->Nat) (n K i k:Nat):List WP:=[Nz i,Nz k,Rw 1 (ah (aw z ln n K)) n,Rw 1 (ah (aw z ln n K)) i,Nz (i+1),Rw 1 (ah (fun ι=>(aw z ln n K) ((i+1)+ι))) (n-(i+1)),Rw 1 (ah (two (aw z ln n K) (fun ι=>(aw z ln n K) ((i+1)+ι)) i (n-(i+1)))) 2,aE 22 (fun ι=>aw z ln n K (ab i ι)) (n-1),Lm (n-1),Nz (n-1),aE 22 (aw (fun r c=>z (ab i r) (ab k c)) (fun r c=>ln (ab i r) (ab k c)) (n-1) K) (n-1)]
def yI (z:Nat->Nat->Nat->Int) (ln:Nat->Nat->Nat) (n K i k:Nat) (r:Nat):List WP:=[Nz r,aE 22 (FB (fun ι=>aw z ln n K (ab i ι)) (aw (fun r c=>z (ab i r) (ab k c)) (fun r c=>ln (ab i r) (ab k c)) (n-1) K) r) (n-1),fun _ _=>True,At 1,fV ((FB (fun ι=>aw z ln n K (ab i ι)) (aw (fun r c=>z (ab i r) (ab k c)) (fun r c=>ln (ab i r) (ab k c)) (n-1) K) r) r),LJ ((FB (fun ι=>aw z ln n K (ab i ι)) (aw (fun r c=>z (ab i r) (ab k c)) (fun r c=>ln (ab i r) (ab k c)) (n-1) K) r) r),LK ((FB (fun ι=>aw z ln n K (ab i ι)) (aw (fun r c=>z (ab i r) (ab k c)) (fun r c=>ln (ab i r) (ab k c)) (n-1) K) r) r),Rw 1 (ah (aH (z (ab i r)) (ln (ab i r)) K)) n,Rw 1 (ah (aH (z (ab i r)) (ln (ab i r)) K)) k,Nz (k+1),Rw 1 (ah (fun ι=>(aH (z (ab i r)) (ln (ab i r)) K) ((k+1)+ι))) (n-(k+1)),Rw 1 (ah (two (aH (z (ab i r)) (ln (ab i r)) K) (fun ι=>(aH (z (ab i r)) (ln (ab i r)) K) ((k+1)+ι)) k (n-(k+1)))) 2,Rw 1 (ah (fun c=>aH (z (ab i r)) (ln (ab i r)) K (ab k c))) (n-1),At 1,fV ((FB (fun ι=>aw z ln n K (ab i ι)) (aw (fun r c=>z (ab i r) (ab k c)) (fun r c=>ln (ab i r) (ab k c)) (n-1) K) r) r),aE 22 (FB (fun ι=>aw z ln n K (ab i ι)) (aw (fun r c=>z (ab i r) (ab k c)) (fun r c=>ln (ab i r) (ab k c)) (n-1) K) (r+1)) (n-1),Nz (r+1)]
def MD:bf:=⟨[0,1,2,6,10,11,12,13,14,15,16,17,18,20],[(.slot 21,.i),(.two 7 19,.s)],[(.one 0,11),(.one 1,.bT [1] 12),(.one 1,.lo 1)],[.closed (.one (.ci .i64 0)),.frm 7,.frm 0],11,[(12,10)]⟩
def ME:List Step:=[bQ [.fact 11,.fact 9] oT (ai .lss),
   .base ⟨0,[.fact 12,.fact 11],[oP 15],.joint [1] 14 (aI 24)⟩,
   .base ⟨0,[.fact 15],[⟨.one (.s),[]⟩],.joint [1] 16 (aL 22)⟩,
   .derive (.agg [.s 15 1,.i 15 0,.p 18 0,.s 19 0]) (.agg [.s,.i,.p,.s]) [(0,3,14),(2,2,16)] 17,
   .narrow 1 (.s 15 1) (.i 15 0) (.p 18 0) (.s 19 0) 17 18,
   bQ [.fact 18,.fact 1] [oS 19] (dq 22),
   bQ [.fact 1,.lit (.ci .i64 1)] [oN 20] (ai .add),
   bQ [.fact 18,.fact 20] [oS 21] (jz 22),
   .base ⟨0,[.any,.fact 19,.fact 21],[oS 22],.fresh [] (du 24 2)⟩,
   .base ⟨64,[.fact 22],[oS 23],false⟩,
   .base ⟨0,[.fact 12,.fact 11],[oP 25],.joint [1] 24 (aI 24)⟩,
   .base ⟨0,[.fact 12,.fact 11,.any,.fact 23],[oS 26],.gF [] 1 0 24 (dN 22 (.tmp 26) (.tmp 27))⟩,
   bQ [.fact 11,.lit (.ci .i64 1)] [oN 27] (ai .add)]
def yJ:List Step:=[bQ [.fact 11,.fact 9] oF (ai .lss)]
def yK:List Step:=[bQ [.fact 2,.fact 0] [oS 3] (dq 24),
   bQ [.fact 0,.lit (.ci .i64 1)] [oN 4] (ai .add),
   bQ [.fact 2,.fact 4] [oS 5] (jz 24),
   .base ⟨0,[.any,.fact 3,.fact 5],[oS 6],.fresh [] (du 112 2)⟩,
   .base ⟨63,[.fact 6],[oS 7],.ee [] 1⟩,
   .freed (.one (.s 10 0)) 7 8,
   bQ [.fact 8] [oN 9] (aD 24),
   .loop MD [(ME,[.frm 27,.frm 26,.frm 0])] yJ]
def yL:List Out:=[oN 0,oN 1,oS 2]
theorem MF {z:Nat->Nat->Nat->Int}{ln:Nat->Nat->Nat}{n K i k:Nat} (hn:n<=1000) (hi:i<n) (hk:k<n):dJ (ph (Ma z ln n K i k)) Try.prog ⟨35,[.fact 0,.fact 1,.fact 2],[oS 10],false⟩:=by
 skip
 exact jq yL [oS 10] yK Try.func35 (by kernel_rfl)
  (lB (iF (m:=i) (n:=n) (F:=(ah (aw z ln n K))) Try.underlying24 (by kernel_rfl) aa aa (by omega) rfl)
   (lB (bt aa (by omega) rfl (by omega) (by omega))
   (lB (Mv (m:=(i+1)) (n:=n) (F:=(ah (aw z ln n K))) Try.underlying24 (by kernel_rfl) aa aa (by omega) rfl)
   (lB (Mw (zc:=.one .nl) (A:=(aw z ln n K)) (B:=(fun ι=>(aw z ln n K) ((i+1)+ι))) Try.underlying112 (by kernel_rfl) (by kernel_rfl) aa aa rfl)
   (lB (xn (m:=(n-1)) (A:=(aw z ln n K)) (B:=(fun ι=>(aw z ln n K) ((i+1)+ι))) (a:=i) (b:=(n-(i+1))) (C:=(fun ι=>aw z ln n K (ab i ι))) aa rfl (by omega) (by omega) (iG z ln n K) (fun ι=>(iG z ln n K) ((i+1)+ι)) (eN z ln n K) (fun ι=>(eN z ln n K) ((i+1)+ι)) (fun ι w v hι h=>by show aw z ln n K (ab i ι) w v;rw [ab,if_pos hι];exact h) (fun ι w v hι h=>by show aw z ln n K (ab i (i+ι)) w v;rw [ab,if_neg (by omega),show i+ι+1=i+1+ι by omega];exact h))
   (jA (Mx (e:=22) (n:=(n-1)) (F:=(fun ι=>aw z ln n K (ab i ι))) aa rfl)
   (lB (jB (n:=(n-1)) Try.underlying24 aa rfl)
   (bI (counted (n-1) (fun r=>ph (Ma z ln n K i k ++ yI z ln n K i k r)) (fun _=>0) (fun r p hp=>bJ (show p<(Ma z ln n K i k).length from hp)) ⟨fun _=>rfl,fun _ _ h=>LW h,aW,trivial⟩ (fun r hr=>by
   skip
   exact ⟨(ME,[.frm 27,.frm 26,.frm 0]),rfl,⟨aa,aa,aW,trivial⟩,(lB (bm aa aa)
   (lB (jC (i:=r) (n:=(n-1)) (F:=(FB (fun ι=>aw z ln n K (ab i ι)) (aw (fun r c=>z (ab i r) (ab k c)) (fun r c=>ln (ab i r) (ab k c)) (n-1) K) r)) Try.underlying24 (by kernel_rfl) aa aa (by omega) rfl rfl)
   (lB (rb (G:=((FB (fun ι=>aw z ln n K (ab i ι)) (aw (fun r c=>z (ab i r) (ab k c)) (fun r c=>ln (ab i r) (ab k c)) (n-1) K) r) r)) (by kernel_rfl) (fun w s h=>iG _ _ _ _ _ _ _ (lc (A:=fun ι=>aw z ln n K (ab i ι)) (r:=r) h)) aa rfl)
   (cA (rc rfl rfl rfl)
   (rd (rf (G:=((FB (fun ι=>aw z ln n K (ab i ι)) (aw (fun r c=>z (ab i r) (ab k c)) (fun r c=>ln (ab i r) (ab k c)) (n-1) K) r) r)) (jD (fun ι=>eN z ln n K (ab i ι)) (eN _ _ _ _) r r) rfl (fun w v h=>lc (A:=(fun ι=>aw z ln n K (ab i ι))) (r:=r) h))
   (lB (iF (m:=k) (n:=n) (F:=(ah (aH (z (ab i r)) (ln (ab i r)) K))) Try.underlying22 (by kernel_rfl) aa aa (by omega) rfl)
   (lB (bt aa (by omega) rfl (by omega) (by omega))
   (lB (Mv (m:=(k+1)) (n:=n) (F:=(ah (aH (z (ab i r)) (ln (ab i r)) K))) Try.underlying22 (by kernel_rfl) aa aa (by omega) rfl)
   (lB (Mw (zc:=.one .nl) (A:=(aH (z (ab i r)) (ln (ab i r)) K)) (B:=(fun ι=>(aH (z (ab i r)) (ln (ab i r)) K) ((k+1)+ι))) Try.underlying24 (by kernel_rfl) (by kernel_rfl) aa aa rfl)
   (lB (xH (m:=(n-1)) (A:=(aH (z (ab i r)) (ln (ab i r)) K)) (B:=(fun ι=>(aH (z (ab i r)) (ln (ab i r)) K) ((k+1)+ι))) (a:=k) (b:=(n-(k+1))) (C:=(fun c=>aH (z (ab i r)) (ln (ab i r)) K (ab k c))) aa rfl (by omega) (by omega) (slI (z (ab i r)) (ln (ab i r)) K) (fun ι=>(slI (z (ab i r)) (ln (ab i r)) K) ((k+1)+ι)) (iH (z (ab i r)) (ln (ab i r)) K) (fun ι=>(iH (z (ab i r)) (ln (ab i r)) K) ((k+1)+ι)) (fun ι w v hι h=>by show aH (z (ab i r)) (ln (ab i r)) K (ab k ι) w v;rw [ab.eq_1 k ι,if_pos hι];exact h) (fun ι w v hι h=>by show aH (z (ab i r)) (ln (ab i r)) K (ab k (k+ι)) w v;rw [ab.eq_1 k (k+ι),if_neg (by omega),show k+ι+1=k+1+ι by omega];exact h))
   (lB (jC (i:=r) (n:=(n-1)) (F:=(FB (fun ι=>aw z ln n K (ab i ι)) (aw (fun r c=>z (ab i r) (ab k c)) (fun r c=>ln (ab i r) (ab k c)) (n-1) K) r)) Try.underlying24 (by kernel_rfl) aa aa (by omega) rfl rfl)
   (lB (LU (i:=r) (n:=(n-1)) (F:=(FB (fun ι=>aw z ln n K (ab i ι)) (aw (fun r c=>z (ab i r) (ab k c)) (fun r c=>ln (ab i r) (ab k c)) (n-1) K) r)) (F':=(FB (fun ι=>aw z ln n K (ab i ι)) (aw (fun r c=>z (ab i r) (ab k c)) (fun r c=>ln (ab i r) (ab k c)) (n-1) K) (r+1))) (G:=Rw 1 (ah (fun c=>aH (z (ab i r)) (ln (ab i r)) K (ab k c))) (n-1)) (.tmp 26) (.tmp 27) (by kernel_rfl) (fun _ _ h=>bO h) (jD (fun ι=>eN z ln n K (ab i ι)) (eN _ _ _ _) r) aa aa (by omega) aa rfl (fun k' w v hk h=>LV hk h) (fun w v h=>na h) rfl)
   (lB (bt aa (by omega) rfl (by omega) (by omega))
   aA)))))))))))))⟩)
   (lB (tlF aa aa)
   aA)
   (fun q hq w v h=>by
    simp only [MD,List.mem_cons,List.not_mem_nil,or_false] at hq
    rcases hq with rfl
    ·exact (fun h=>lD h) h)) aA))))))))
  (aJ [.fact 0 (.one (.i)),.fact 1 (.one (.i)),.fact 2 (.one (.s))] ⟨fun _ _ h=>h▸aQ _,fun _ _ h=>h▸aQ _,Rw.Is 1 (ah (aw z ln n K)) n,trivial⟩) (fun _ _ _ h=>h)
section
variable {Φ:PH}{p q r x y n m K i k j:Nat}{z:Nat->Nat->Nat->Int}{ln:Nat->Nat->Nat}{J:List Nat}
theorem rg (hp:∀w v,Φ p w v->Rw 1 (ah (aw z ln n K)) n w v) (hr:∀w v,Φ r w v->v = .int .i64 (k:Int)) (hx:Φ x=Rw 1 (ah (aw (fun r c=>z (ab 0 r) (ab k c)) (fun r c=>ln (ab 0 r) (ab k c)) m K)) m) (hn:n<=1000) (hk:k<n) (hm:n-1=m):aj Φ Try.prog ⟨35,[.lit (.ci .i64 0),.fact r,.fact p],[oS x],false⟩:=by
 subst hm
 exact aT (dJ.call (md:=false) (MF (z:=z) (ln:=ln) (K:=K) (i:=0) hn (by omega) hk)) ⟨fun _=>rfl,hr,hp,trivial⟩ ⟨⟨rfl,⟨rfl,rfl,fun w v h=>by
  rw [hx]
  exact aE.rw (e:=22) h⟩,trivial⟩,trivial⟩
theorem ld (hp:∀w v,Φ p w v->Rw 1 (ah (aw z ln n K)) n w v) (hn:n<=4):aj Φ Try.prog ⟨24,[.fact p],oT,false⟩:=aT (dsq (z:=z) (ln:=ln) (K:=K) hn) ⟨hp,trivial⟩ ⟨⟨rfl,trivial⟩,trivial⟩
end
def dM (z:Nat->Nat->Nat->Int) (ln:Nat->Nat->Nat) (i k:Nat):List Int:=ad (mk (ln i k) (z i k))
def yN (z:Nat->Nat->Nat->Int) (ln:Nat->Nat->Nat) (K:Nat):List WP:=[Rw 1 (ah (aw z ln 0 K)) 0,Nz 0,Ni (1),fun w v=>Rw 1 (fun i _ v=>v = .agg #[.int .i64 (ae [1] i)]) 1 w v,Rw 2 (Nf (ae ([1])) 2) 1]
def yO:List Step:=[bQ [.fact 0] [oN 1] (aD 24),
   bQ [.fact 1,.lit (.ci .i64 0)] oT (ai .eql),
   .derive (.one (.ci .i64 1)) (.one (.lit (.ci .i64 1))) [] 2,
   .base ⟨0,[.any,.fact 2],[oS 3],.fresh [] (du 58 1)⟩,
   .base ⟨27,[.fact 3],[oS 4],false⟩]
def yP:List Out:=[oS 0]
theorem yQ {z:Nat->Nat->Nat->Int}{ln:Nat->Nat->Nat}{K:Nat}  : aj (ph (yN z ln K)) Try.prog ⟨25,[.fact 0],[oS 4],false⟩:=by
 skip
 exact aR yP [oS 4] yO Try.func25 (by kernel_rfl)
  (lB (aG (F:=(ah (aw z ln 0 K))) Try.underlying24 aa rfl)
   (lB (bi (op:=.eql) aa (aS (rfl) (by simp)))
   (cA (gG rfl)
   (lB (fw (ps:=[2]) (sz:=1) (n:=1) (F:=(fun i _ v=>v = .agg #[.int .i64 (ae [1] i)])) (zc:=.one (.ci .i64 0)) Try.underlying58 (by kernel_rfl) (by omega) (by kernel_rfl) (by omega) (by omega) rfl (gD aa) rfl)
   (lB (jE (z:=ae [1]) (n:=1) (zs:=[1]) aa rfl (by omega) (gC (by decide)) (by decide))
   aA)))))
  (aJ [.fact 0 (.one (.s))] ⟨Rw.Is 1 (ah (aw z ln 0 K)) 0,trivial⟩) bg
def nd (z:Nat->Nat->Nat->Int) (ln:Nat->Nat->Nat) (n K _k:Nat):List WP:=[Rw 1 (ah (aw z ln (n+1) K)) (n+1),Nz (n+1),Ptr 1 (ah (aw z ln (n+1) K) 0),Rw 1 (ah (aH (z 0) (ln 0) K)) (n+1),Nz (n+1),fun w v=>Rw 2 (fun ι w v=>au w v ((ae (KS (dM z ln 0) (fun k=>an n (mnr (dM z ln) 0 k)) (n+1))) ι) 2000) (KS (dM z ln 0) (fun k=>an n (mnr (dM z ln) 0 k)) (n+1)).length w v]
def yR (z:Nat->Nat->Nat->Int) (ln:Nat->Nat->Nat) (n K _c _k:Nat) (j:Nat):List WP:=[Nz j,Rw 2 (Nf (ae (KS (dM z ln 0) (fun k=>an n (mnr (dM z ln) 0 k)) j)) 2000) (KS (dM z ln 0) (fun k=>an n (mnr (dM z ln) 0 k)) j).length,Ptr 1 (ah (aH (z 0) (ln 0) K) j),Rw 2 (If (z 0 j) K) (ln 0 j),Rw 1 (ah (aw (fun r c=>z (ab 0 r) (ab j c)) (fun r c=>ln (ab 0 r) (ab j c)) n K)) n,Rw 2 (Nf (ae (an n (mnr (dM z ln) 0 j))) 2000) ((an n (mnr (dM z ln) 0 j)).length),Rw 2 (Nf (ae (aK (dM z ln 0 j) (an n (mnr (dM z ln) 0 j)))) 2000) ((aK (dM z ln 0 j) (an n (mnr (dM z ln) 0 j))).length),Ni (Int.tmod ((j:Nat):Int) 2),Rw 2 (Nf (ae (bo (KS (dM z ln 0) (fun k=>an n (mnr (dM z ln) 0 k)) j) (bK (aK (dM z ln 0 j) (an n (mnr (dM z ln) 0 j)))))) 2000) ((bo (KS (dM z ln 0) (fun k=>an n (mnr (dM z ln) 0 k)) j) (bK (aK (dM z ln 0 j) (an n (mnr (dM z ln) 0 j))))).length),Nz (j+1),Ptr 1 (ah (aH (z 0) (ln 0) K) j),Rw 2 (If (z 0 j) K) (ln 0 j),Rw 1 (ah (aw (fun r c=>z (ab 0 r) (ab j c)) (fun r c=>ln (ab 0 r) (ab j c)) n K)) n,Rw 2 (Nf (ae (an n (mnr (dM z ln) 0 j))) 2000) ((an n (mnr (dM z ln) 0 j)).length),Rw 2 (Nf (ae (aK (dM z ln 0 j) (an n (mnr (dM z ln) 0 j)))) 2000) ((aK (dM z ln 0 j) (an n (mnr (dM z ln) 0 j))).length),Ni (Int.tmod ((j:Nat):Int) 2),Rw 2 (Nf (ae (bo (KS (dM z ln 0) (fun k=>an n (mnr (dM z ln) 0 k)) j) (aK (dM z ln 0 j) (an n (mnr (dM z ln) 0 j))))) 2000) ((bo (KS (dM z ln 0) (fun k=>an n (mnr (dM z ln) 0 k)) j) (aK (dM z ln 0 j) (an n (mnr (dM z ln) 0 j)))).length),Nz (j+1)]
def ri:bf:=⟨[0,2,7,8,9,12,13,14,15],[(.slot 16,.i),(.slot 3,.s)],[(.one 0,6),(.one 1,7)],[.closed (.one (.ci .i64 0)),.closed (.one (.nl))],6,[(7,5)]⟩
def rj:List Step:=[bQ [.fact 6,.fact 4] oT (ai .lss),
   bQ [.fact 3,.fact 6] [oP 8] (aI 22),
   bQ [.fact 8] [oS 9] (aL 29),
   .base ⟨35,[.lit (.ci .i64 0),.fact 6,.fact 0],[oS 10],false⟩,
   .base ⟨25,[.fact 10],[oS 11],false⟩,
   .base ⟨20,[.fact 9,.fact 11],[oS 12],false⟩,
   bQ [.fact 6,.lit (.ci .i64 2)] [oN 13] (dY),
   bQ [.fact 13,.lit (.ci .i64 0)] oF (ai .eql),
   .base ⟨50,[.fact 7,.fact 12],[oS 14],false⟩,
   bQ [.fact 6,.lit (.ci .i64 1)] [oN 15] (ai .add)]
def rk:List Step:=[bQ [.fact 6,.fact 4] oT (ai .lss),
   bQ [.fact 3,.fact 6] [oP 16] (aI 22),
   bQ [.fact 16] [oS 17] (aL 29),
   .base ⟨35,[.lit (.ci .i64 0),.fact 6,.fact 0],[oS 18],false⟩,
   .base ⟨25,[.fact 18],[oS 19],false⟩,
   .base ⟨20,[.fact 17,.fact 19],[oS 20],false⟩,
   bQ [.fact 6,.lit (.ci .i64 2)] [oN 21] (dY),
   bQ [.fact 21,.lit (.ci .i64 0)] oT (ai .eql),
   .base ⟨19,[.fact 7,.fact 20],[oS 22],false⟩,
   bQ [.fact 6,.lit (.ci .i64 1)] [oN 23] (ai .add)]
def yS:List Step:=[bQ [.fact 6,.fact 4] oF (ai .lss)]
def yT:List Step:=[bQ [.fact 0] [oN 1] (aD 24),
   bQ [.fact 1,.lit (.ci .i64 0)] oF (ai .eql),
   bQ [.fact 0,.lit (.ci .i64 0)] [oP 2] (aI 24),
   bQ [.fact 2] [oS 3] (aL 22),
   bQ [.fact 3] [oN 4] (aD 22),
   .loop ri [(rj,[.frm 15,.frm 14]),(rk,[.frm 23,.frm 22])] yS]
def yU:List Out:=[oS 0]
theorem yV {z:Nat->Nat->Nat->Int}{ln:Nat->Nat->Nat}{n K c k:Nat} (ih:∀{Φ:PH}{p x:Nat} (z':Nat->Nat->Nat->Int) (gH:Nat->Nat->Nat),(∀w v,Φ p w v->Rw 1 (ah (aw z' gH n K)) n w v)->(Φ x=Rw 2 (Nf (ae (an n (dM z' gH))) 2000) (an n (dM z' gH)).length)->(∀i j,gH i j<=1000)->(∀i j,i<n->j<n->EOk c k (dM z' gH i j))->aj Φ Try.prog ⟨25,[.fact p],[oS x],false⟩) (hn:n<=3) (hK:K<=2000) (hc:c<=100) (hk:k<=100) (hln:∀i j,ln i j<=1000) (hM:∀i j,i<n+1->j<n+1->EOk c k (dM z ln i j)) (hbd:bD c k n+k+c+(n+1)+1<=2000):aj (ph (nd z ln n K k)) Try.prog ⟨25,[.fact 0],[oS 5],false⟩:=by
 have hm':∀j,j<n+1->∀i l,i<n->l<n->EOk c k (mnr (dM z ln) 0 j i l):=fun j hj i l hi hl=>hM _ _ (by unfold ab;split <;> omega) (by unfold ab;split <;> omega)
 have hd:∀j,j<n+1->EOk (n*c+1) (bD c k n) (an n (mnr (dM z ln) 0 j)):=fun j hj=>fU n _ (hm' j hj)
 have hnc:n*c<=3*100:=Nat.mul_le_mul hn hc
 have hX:∀j,j<n+1->EOk (c+(n*c+1)) (k+bD c k n+c) (aK (dM z ln 0 j) (an n (mnr (dM z ln) 0 j))):=fun j hj=>(hM 0 j (by omega) hj).mul (hd j hj)
 have hs:∀j,j<=n+1->EOk (c+(n*c+1)) (k+bD c k n+c+j) (KS (dM z ln 0) (fun k=>an n (mnr (dM z ln) 0 k)) j):=LM (fun j hj=>hM 0 j (by omega) hj) hd
 exact aR yU [oS 5] yT Try.func25 (by kernel_rfl)
  (lB (aG (F:=(ah (aw z ln (n+1) K))) Try.underlying24 aa rfl)
   (lB (bi (op:=.eql) aa (aS (decide_eq_false (p:=(((n+1:Nat):Int)=(0:Int))) (by omega)) (by simp)))
   (lB (fW 0 (sz:=1) (n:=(n+1)) (F:=(ah (aw z ln (n+1) K))) Try.underlying24 (by kernel_rfl) (fun _ _ h=>Rw.arr h) rfl (by omega) rfl)
   (lB (KU (G:=Rw 1 (ah (aH (z 0) (ln 0) K)) (n+1)) (by kernel_rfl) aa (fun _ _ h=>bO h) rfl)
   (lB (aG (F:=(ah (aH (z 0) (ln 0) K))) Try.underlying22 aa rfl)
   (bI (counted (n+1) (fun j=>ph (nd z ln n K k ++ yR z ln n K c k j)) (fun j=>if j % 2=1 then 0 else 1) (fun j p hp=>bJ (show p<(nd z ln n K k).length from hp)) ⟨fun _=>rfl,fun w=>Rw.nil 2 (Nf (ae (KS (dM z ln 0) (fun k=>an n (mnr (dM z ln) 0 k)) 0)) 2000) w,trivial⟩ (fun j hj=>by
   skip
   by_cases hcj:j % 2=1
   ·skip
    exact ⟨(rj,[.frm 15,.frm 14]),by rw [if_pos hcj];rfl,⟨aa,fun w v h=>show Rw 2 (fun ι w v=>au w v ((ae (KS (dM z ln 0) (fun k=>an n (mnr (dM z ln) 0 k)) (j+1))) ι) 2000) (KS (dM z ln 0) (fun k=>an n (mnr (dM z ln) 0 k)) (j+1)).length w v by rw [KS,Le,if_pos hcj];exact h,trivial⟩,(lB (bm aa aa)
   (lB (bc (i:=j) (F:=(ah (aH (z 0) (ln 0) K))) Try.underlying22 (by kernel_rfl) aa aa (by omega) rfl)
   (lB (KU (G:=Rw 2 (If (z 0 j) K) (ln 0 j)) (by kernel_rfl) aa (fun _ _ h=>bO h) rfl)
   (lB (rg (z:=z) (ln:=ln) (n:=(n+1)) (k:=j) aa aa rfl (by omega) (by omega) rfl)
   (lB (ih (fun r c=>z (ab 0 r) (ab j c)) (fun r c=>ln (ab 0 r) (ab j c)) aa rfl (fun _ _=>hln _ _) (hm' j hj))
   (lB (lf (c:=1000) (A:=(dM z ln 0 j)) (B:=(an n (mnr (dM z ln) 0 j))) (z:=(z 0 j)) (n:=(ln 0 j)) (y:=(ae (an n (mnr (dM z ln) 0 j)))) (m:=(an n (mnr (dM z ln) 0 j)).length) (k:=K) (l:=2000) (K:=2000) (Rw.To 2 (If (z 0 j) K) (ln 0 j) (fun _ _ _ _ h=>h)) (Rw.To 2 (Nf (ae (an n (mnr (dM z ln) 0 j))) 2000) ((an n (mnr (dM z ln) 0 j)).length) (fun _ _ _ _ h=>au.i h)) rfl (cX (hd j hj).nrm) rfl (hln _ _) (by have:=(hd j hj).len;omega) (by omega) (by omega) (by omega) (fun i=>((hX j hj).bd i).more (by omega)))
   (lB (eB aa (by decide) rfl)
   (lB (bi (op:=.eql) aa (aS (decide_eq_false (by have:=Int.tmod_eq_emod_of_nonneg (a:=(j:Int)) (b:=2) (by omega);omega)) (by simp)))
   (lB (yW (A:=(KS (dM z ln 0) (fun k=>an n (mnr (dM z ln) 0 k)) j)) (B:=(aK (dM z ln 0 j) (an n (mnr (dM z ln) 0 j)))) (z:=(ae (KS (dM z ln 0) (fun k=>an n (mnr (dM z ln) 0 k)) j))) (n:=(KS (dM z ln 0) (fun k=>an n (mnr (dM z ln) 0 k)) j).length) (y:=(ae (aK (dM z ln 0 j) (an n (mnr (dM z ln) 0 j))))) (m:=(aK (dM z ln 0 j) (an n (mnr (dM z ln) 0 j))).length) (k:=2000) (l:=2000) (K:=2000) (Rw.To 2 (fun ι w v=>au w v ((ae (KS (dM z ln 0) (fun k=>an n (mnr (dM z ln) 0 k)) j)) ι) 2000) ((KS (dM z ln 0) (fun k=>an n (mnr (dM z ln) 0 k)) j).length) (fun _ _ _ _ h=>au.i h)) (Rw.To 2 (fun ι w v=>au w v ((ae (aK (dM z ln 0 j) (an n (mnr (dM z ln) 0 j)))) ι) 2000) ((aK (dM z ln 0 j) (an n (mnr (dM z ln) 0 j))).length) (fun _ _ _ _ h=>au.i h)) (cX (hs j (by omega)).nrm) (cX (hX j hj).nrm) rfl (by have:=(hs j (by omega)).len;omega) (by have:=(hX j hj).len;omega) (by omega) (by omega) (fun i=>by have:=((hs (j+1) (by omega)).bd i).more (show _<=2000 by omega);rw [KS,Le,if_pos hcj] at this;exact this))
   (lB (bt aa (by omega) rfl (by omega) (by omega))
   aA))))))))))⟩
   ·skip
    exact ⟨(rk,[.frm 23,.frm 22]),by rw [if_neg hcj];rfl,⟨aa,fun w v h=>show Rw 2 (fun ι w v=>au w v ((ae (KS (dM z ln 0) (fun k=>an n (mnr (dM z ln) 0 k)) (j+1))) ι) 2000) (KS (dM z ln 0) (fun k=>an n (mnr (dM z ln) 0 k)) (j+1)).length w v by rw [KS,Le,if_neg hcj];exact h,trivial⟩,(lB (bm aa aa)
   (lB (bc (i:=j) (F:=(ah (aH (z 0) (ln 0) K))) Try.underlying22 (by kernel_rfl) aa aa (by omega) rfl)
   (lB (KU (G:=Rw 2 (If (z 0 j) K) (ln 0 j)) (by kernel_rfl) aa (fun _ _ h=>bO h) rfl)
   (lB (rg (z:=z) (ln:=ln) (n:=(n+1)) (k:=j) aa aa rfl (by omega) (by omega) rfl)
   (lB (ih (fun r c=>z (ab 0 r) (ab j c)) (fun r c=>ln (ab 0 r) (ab j c)) aa rfl (fun _ _=>hln _ _) (hm' j hj))
   (lB (lf (c:=1000) (A:=(dM z ln 0 j)) (B:=(an n (mnr (dM z ln) 0 j))) (z:=(z 0 j)) (n:=(ln 0 j)) (y:=(ae (an n (mnr (dM z ln) 0 j)))) (m:=(an n (mnr (dM z ln) 0 j)).length) (k:=K) (l:=2000) (K:=2000) (Rw.To 2 (If (z 0 j) K) (ln 0 j) (fun _ _ _ _ h=>h)) (Rw.To 2 (Nf (ae (an n (mnr (dM z ln) 0 j))) 2000) ((an n (mnr (dM z ln) 0 j)).length) (fun _ _ _ _ h=>au.i h)) rfl (cX (hd j hj).nrm) rfl (hln _ _) (by have:=(hd j hj).len;omega) (by omega) (by omega) (by omega) (fun i=>((hX j hj).bd i).more (by omega)))
   (lB (eB aa (by decide) rfl)
   (lB (bi (op:=.eql) aa (aS (decide_eq_true (by have:=Int.tmod_eq_emod_of_nonneg (a:=(j:Int)) (b:=2) (by omega);omega)) (by simp)))
   (lB (ne (A:=(KS (dM z ln 0) (fun k=>an n (mnr (dM z ln) 0 k)) j)) (B:=(aK (dM z ln 0 j) (an n (mnr (dM z ln) 0 j)))) (z:=(ae (KS (dM z ln 0) (fun k=>an n (mnr (dM z ln) 0 k)) j))) (n:=(KS (dM z ln 0) (fun k=>an n (mnr (dM z ln) 0 k)) j).length) (y:=(ae (aK (dM z ln 0 j) (an n (mnr (dM z ln) 0 j))))) (m:=(aK (dM z ln 0 j) (an n (mnr (dM z ln) 0 j))).length) (k:=2000) (l:=2000) (K:=2000) (Rw.To 2 (fun ι w v=>au w v ((ae (KS (dM z ln 0) (fun k=>an n (mnr (dM z ln) 0 k)) j)) ι) 2000) ((KS (dM z ln 0) (fun k=>an n (mnr (dM z ln) 0 k)) j).length) (fun _ _ _ _ h=>au.i h)) (Rw.To 2 (fun ι w v=>au w v ((ae (aK (dM z ln 0 j) (an n (mnr (dM z ln) 0 j)))) ι) 2000) ((aK (dM z ln 0 j) (an n (mnr (dM z ln) 0 j))).length) (fun _ _ _ _ h=>au.i h)) (cX (hs j (by omega)).nrm) (cX (hX j hj).nrm) rfl (by have:=(hs j (by omega)).len;omega) (by have:=(hX j hj).len;omega) (by omega) (by omega) (fun i=>by have:=((hs (j+1) (by omega)).bd i).more (show _<=2000 by omega);rw [KS,Le,if_neg hcj] at this;exact this))
   (lB (bt aa (by omega) rfl (by omega) (by omega))
   aA))))))))))⟩
)
   (lB (tlF aa aa)
   aA)
   (fun q hq w v h=>by
    simp only [ri,List.mem_cons,List.not_mem_nil,or_false] at hq
    rcases hq with rfl
    ·exact (fun h=>h) h)) aA))))))
  (aJ [.fact 0 (.one (.s))] ⟨Rw.Is 1 (ah (aw z ln (n+1) K)) (n+1),trivial⟩) bg
theorem rm {K c k:Nat} (hK:K<=2000) (hc:c<=100) (hk:k<=100):∀n,n<=4->∀{Φ:PH}{p x:Nat} (z:Nat->Nat->Nat->Int) (ln:Nat->Nat->Nat),(∀w v,Φ p w v->Rw 1 (ah (aw z ln n K)) n w v)->(Φ x=Rw 2 (Nf (ae (an n (dM z ln))) 2000) (an n (dM z ln)).length)->(∀i j,ln i j<=1000)->(∀i j,i<n->j<n->EOk c k (dM z ln i j))->aj Φ Try.prog ⟨25,[.fact p],[oS x],false⟩
 | 0,_,Φ,p,x,z,ln,hp,hx,_,_=>aT (yQ (z:=z) (ln:=ln) (K:=K)) ⟨hp,trivial⟩ ⟨⟨rfl,⟨rfl,rfl,fun w v h=>by
   rw [hx]
   exact Rw.to (sz:=2) (n:=1) (F:=Nf (ae [1]) 2) h fun i w v _ h=>h.more (by omega)⟩,trivial⟩,trivial⟩
 | n+1,hn,Φ,p,x,z,ln,hp,hx,hln,hM=>aT (yV (z:=z) (ln:=ln) (n:=n) (K:=K) (c:=c) (k:=k) (fun z' gH h1 h2 h3 h4=>rm hK hc hk n (by omega) z' gH h1 h2 h3 h4) (by omega) hK hc hk hln hM (by have:=lh hc hk n (by omega);omega)) ⟨hp,trivial⟩ ⟨⟨rfl,⟨rfl,rfl,fun _ _ h=>hx▸h⟩,trivial⟩,trivial⟩
theorem yX (_:Nat):cg (fun _ v=>v=Value.slice none 0 0):=fun _ _ w _ hX _ _ _=>hX w (Off.refl _ _)
def nf (z:Nat->Nat->Int) (ln:Nat->Nat) (m K:Nat):List WP:=[Rw 1 (ah (aH z ln K)) m,Nz m,fun w v=>aE 29 (fun _ _ v=>v=Value.slice none 0 0) m w v,Nz m,aE 29 (aH (fun j=>ae (ad (mk (ln j) (z j)))) (fun j=>(ad (mk (ln j) (z j))).length) K) m]
def yY (z:Nat->Nat->Int) (ln:Nat->Nat) (m K:Nat) (j:Nat):List WP:=[Nz j,fun w v=>aE 29 (FB (fun _ _ v=>v=Value.slice none 0 0) (aH (fun j=>ae (ad (mk (ln j) (z j)))) (fun j=>(ad (mk (ln j) (z j))).length) K) j) m w v,fun _ _=>True,Ptr 1 (ah (aH z ln K) j),Rw 2 (If (z j) K) (ln j),Rw 2 (Nf (ae (ad (mk (ln j) (z j)))) K) ((ad (mk (ln j) (z j))).length),At 1,fun w v=>fV ((FB (fun _ _ v=>v=Value.slice none 0 0) (aH (fun j=>ae (ad (mk (ln j) (z j)))) (fun j=>(ad (mk (ln j) (z j))).length) K) j) j) w v,fun w v=>aE 29 (FB (fun _ _ v=>v=Value.slice none 0 0) (aH (fun j=>ae (ad (mk (ln j) (z j)))) (fun j=>(ad (mk (ln j) (z j))).length) K) (j+1)) m w v,Nz (j+1)]
def rn:bf:=⟨[0,2,6,7,8,9,10],[(.slot 11,.i),(.slot 3,.s)],[(.one 0,5),(.one 1,.bT [1] 6),(.one 1,.lo 1)],[.closed (.one (.ci .i64 0)),.frm 2,.frm 0],5,[(6,4)]⟩
def ro:List Step:=[bQ [.fact 5,.fact 3] oT (ai .lss),
   bQ [.fact 0,.fact 5] [oP 8] (aI 22),
   bQ [.fact 8] [oS 9] (aL 29),
   .base ⟨16,[.fact 9],[oS 10],false⟩,
   .base ⟨0,[.fact 6,.fact 5],[oP 12],.joint [1] 11 (aI 22)⟩,
   .base ⟨0,[.fact 6,.fact 5,.any,.fact 10],[oS 13],.gF [] 1 0 11 (dN 29 (.tmp 16) (.tmp 17))⟩,
   bQ [.fact 5,.lit (.ci .i64 1)] [oN 14] (ai .add)]
def yZ:List Step:=[bQ [.fact 5,.fact 3] oF (ai .lss)]
def Nm:List Step:=[bQ [.fact 0] [oN 1] (aD 22),
   .base ⟨0,[.fact 1,.fact 1],[oS 2],.loose [] 1 0 (dZ 22)⟩,
   bQ [.fact 0] [oN 3] (aD 22),
   .loop rn [(ro,[.frm 14,.frm 13,.frm 0])] yZ]
def Nn:List Out:=[oS 0]
theorem No {z:Nat->Nat->Int}{ln:Nat->Nat}{m K:Nat} (hm:m<=1000) (hK:K<=100000) (hln:∀j,ln j<=1000000):aj (ph (nf z ln m K)) Try.prog ⟨26,[.fact 0],[oS 4],false⟩:=by
 skip
 exact aR Nn [oS 4] Nm Try.func26 (by kernel_rfl)
  (lB (aG (F:=(ah (aH z ln K))) Try.underlying22 aa rfl)
   (lB (MU (n:=m) Try.underlying22 (by kernel_rfl) aa (by omega) rfl)
   (lB (aG (F:=(ah (aH z ln K))) Try.underlying22 aa rfl)
   (bI (counted m (fun j=>ph (nf z ln m K ++ yY z ln m K j)) (fun _=>0) (fun j p hp=>bJ (show p<(nf z ln m K).length from hp)) ⟨fun _=>rfl,fun _ _ h=>LW h,aW,trivial⟩ (fun j hj=>by
   skip
   exact ⟨(ro,[.frm 14,.frm 13,.frm 0]),rfl,⟨aa,aa,aW,trivial⟩,(lB (bm aa aa)
   (lB (bc (i:=j) (F:=(ah (aH z ln K))) Try.underlying22 (by kernel_rfl) aa aa (by omega) rfl)
   (lB (KU (G:=Rw 2 (If (z j) K) (ln j)) (by kernel_rfl) aa (fun _ _ h=>bO h) rfl)
   (lB (rq (z:=(z j)) (n:=(ln j)) (k:=K) (L:=(ad (mk (ln j) (z j)))) (Rw.To 2 (If (z j) K) (ln j) (fun _ _ _ _ h=>h)) rfl (hln _) (by omega) rfl)
   (lB (jC (i:=j) (n:=m) (F:=(FB (fun _ _ v=>v=Value.slice none 0 0) (aH (fun j=>ae (ad (mk (ln j) (z j)))) (fun j=>(ad (mk (ln j) (z j))).length) K) j)) Try.underlying22 (by kernel_rfl) aa aa (by omega) rfl rfl)
   (lB (LU (i:=j) (n:=m) (F:=(FB (fun _ _ v=>v=Value.slice none 0 0) (aH (fun j=>ae (ad (mk (ln j) (z j)))) (fun j=>(ad (mk (ln j) (z j))).length) K) j)) (F':=(FB (fun _ _ v=>v=Value.slice none 0 0) (aH (fun j=>ae (ad (mk (ln j) (z j)))) (fun j=>(ad (mk (ln j) (z j))).length) K) (j+1))) (G:=Rw 2 (Nf (ae (ad (mk (ln j) (z j)))) K) ((ad (mk (ln j) (z j))).length)) (.tmp 16) (.tmp 17) (by kernel_rfl) (fun _ _ h=>bO h) (jD yX (iH _ _ _) j) aa aa (by omega) aa rfl (fun k' w v hk h=>LV hk h) (fun w v h=>na (Rw.to (sz:=2) (n:=(ad (mk (ln j) (z j))).length) (F:=Nf (ae (ad (mk (ln j) (z j)))) K) h fun _ _ _ _ h=>au.i h)) rfl)
   (lB (bt aa (by omega) rfl (by omega) (by omega))
   aA)))))))⟩)
   (lB (tlF aa aa)
   aA)
   (fun q hq w v h=>by
    simp only [rn,List.mem_cons,List.not_mem_nil,or_false] at hq
    rcases hq with rfl
    ·exact (fun h=>lD h) h)) aA))))
  (aJ [.fact 0 (.one (.s))] ⟨Rw.Is 1 (ah (aH z ln K)) m,trivial⟩) bg
section
variable {Φ:PH}{p x m K:Nat}{z:Nat->Nat->Int}{ln:Nat->Nat}
theorem ng (hp:∀w v,Φ p w v->Rw 1 (ah (aH z ln K)) m w v) (hx:Φ x=Rw 1 (ah (aH (fun j=>ae (ad (mk (ln j) (z j)))) (fun j=>(ad (mk (ln j) (z j))).length) K)) m) (hm:m<=1000) (hK:K<=100000) (hln:∀j,ln j<=1000000):aj Φ Try.prog ⟨26,[.fact p],[oS x],false⟩:=
 aT (No (z:=z) (ln:=ln) hm hK hln) ⟨hp,trivial⟩ ⟨⟨rfl,⟨rfl,rfl,fun w v h=>by
  rw [hx]
  exact aE.rw (e:=29) h⟩,trivial⟩,trivial⟩
end
def Np (z:Nat->Nat->Nat->Int) (ln:Nat->Nat->Nat) (n K:Nat):List WP:=[Rw 1 (ah (aw z ln n K)) n,Rw 2 (Nf (ae (an n (dM z ln))) 2000) ((an n (dM z ln)).length)]
def Nq:List Step:=[.base ⟨24,[.fact 0],oT,false⟩,
   .base ⟨25,[.fact 0],[oS 1],false⟩]
def Nr:List Out:=[oS 0]
theorem zb {z:Nat->Nat->Nat->Int}{ln:Nat->Nat->Nat}{n K c k:Nat} (hn:n<=4) (hK:K<=2000) (hc:c<=100) (hk:k<=100) (hln:∀i j,ln i j<=1000) (hM:∀i j,i<n->j<n->EOk c k (dM z ln i j)):aj (ph (Np z ln n K)) Try.prog ⟨10,[.fact 0],[oS 1,oL (.ci .i64 0)],true⟩:=by
 skip
 exact aR Nr [oS 1,oL (.ci .i64 0)] Nq Try.func10 (by kernel_rfl)
  (lB (ld (z:=z) (ln:=ln) (K:=K) (n:=n) aa (by omega))
   (lB (rm hK hc hk n hn z ln aa rfl hln hM)
   aA))
  (aJ [.fact 0 (.one (.s))] ⟨Rw.Is 1 (ah (aw z ln n K)) n,trivial⟩) bg
section
variable {Φ:PH}{p q r x n m K c k i j:Nat}{z:Nat->Nat->Nat->Int}{ln:Nat->Nat->Nat}
theorem jF (hp:∀w v,Φ p w v->Rw 1 (ah (aw z ln n K)) n w v) (hx:Φ x=Rw 2 (Nf (ae (an n (fun i k=>ad (mk (ln i k) (z i k))))) 2000) (an n (fun i k=>ad (mk (ln i k) (z i k)))).length) (hn:n<=4) (hK:K<=2000) (hc:c<=100) (hk:k<=100) (hM:∀i j,i<n->j<n->EOk c k (ad (mk (ln i j) (z i j)))) (hln:∀i j,ln i j<=1000):aj Φ Try.prog ⟨10,[.fact p],[oS x,oL (.ci .i64 0)],true⟩:=
 aT (zb (z:=z) (ln:=ln) (c:=c) (k:=k) hn hK hc hk hln hM) ⟨hp,trivial⟩ ⟨⟨rfl,⟨rfl,rfl,fun _ _ h=>hx▸h⟩,trivial⟩,⟨rfl,trivial⟩,trivial⟩
end
theorem nG {Φ:PH}{p q x:Nat}{J:List Nat}{T e:TypeId}{zc:C}{F:PH} (hT:Try.prog.underlying T=some (.slice e)) (hz:cG Try.prog e=some 1) (h0:zeroAt Try.prog e=some zc) (hS:∀i w s,F i w s->∃p n c,s = .slice p n c) (hp:∀w v,Φ p w v->F 0 w v) (hq:∀w v,Φ q w v->F 1 w v) (hx:Φ x=Rw 1 (ah F) 2) :
  aj Φ Try.prog ⟨0,[.any,.fact p,.fact q],[oS x],.fresh J (du T 2)⟩:=
 fw (ps:=[p,q]) (sz:=1) hT hz (by omega) h0 (by omega) (by omega) rfl (fun i p' h w v hv=>by
  have sl:∀i,F i w v->v.cells = #[v]:=fun i h=>by
   obtain ⟨p,n,c,rfl⟩:=hS i w v h;rfl
  match i,h with
  | 0,h=>
   obtain rfl:=Option.some.inj h
   exact ⟨by rw [sl 0 (hp w v hv)];rfl,v,by rw [sl 0 (hp w v hv)],hp w v hv⟩
  | 1,h=>
   obtain rfl:=Option.some.inj h
   exact ⟨by rw [sl 1 (hq w v hv)];rfl,v,by rw [sl 1 (hq w v hv)],hq w v hv⟩
  | i+2,h=>simp at h) hx
def bA (r c:Nat):List Int:=if r=0 then (if c=0 then [1] else [2]) else if c=0 then [3] else [4]
theorem sc (P:List Int->Prop) (h1:P [1]) (h2:P [2]) (h3:P [3]) (h4:P [4]) (r c:Nat):P (bA r c):=by
 unfold bA
 split <;> split <;> assumption
theorem sd (r c:Nat):(bA r c).length<=1:=sc (fun l=>l.length<=1) (by decide) (by decide) (by decide) (by decide) r c
theorem lu {a:Int} (h:a.natAbs<4294967296 ^ 1) (h0:a≠0):EOk 1 1 [a]:=⟨Nat.le_refl _,fun _=>h0,fun i=>by
 match i with
 | 0=>exact h
 | i+1=>exact (show (0:Int).natAbs<4294967296 ^ 1 by decide)⟩
theorem nH (r c:Nat):EOk 1 1 (ad (mk (bA r c).length (ae (bA r c)))):=by
 refine sc (fun l=>EOk 1 1 (ad (mk l.length (ae l)))) ?_ ?_ ?_ ?_ r c
 ·exact (show ad (mk [1].length (ae [1])) = [1] by decide)▸lu (by decide) (by decide)
 ·exact (show ad (mk [2].length (ae [2])) = [2] by decide)▸lu (by decide) (by decide)
 ·exact (show ad (mk [3].length (ae [3])) = [3] by decide)▸lu (by decide) (by decide)
 ·exact (show ad (mk [4].length (ae [4])) = [4] by decide)▸lu (by decide) (by decide)
theorem Av (r c:Nat):(ad (mk (bA r c).length (ae (bA r c)))).length<=1:=(nH r c).len
theorem Aw:an 2 (fun i k=>ad (mk (ad (mk (bA i k).length (ae (bA i k)))).length (ae (ad (mk (bA i k).length (ae (bA i k))))))) = [-2]:=by decide
def Az  : List WP:=[Ni (1),fun w v=>Rw 1 (fun i _ v=>v = .agg #[.int .i64 (ae [1] i)]) 1 w v,Rw 2 (Nf (ae ([1])) 2) 1,Ni (2),fun w v=>Rw 1 (fun i _ v=>v = .agg #[.int .i64 (ae [2] i)]) 1 w v,Rw 2 (Nf (ae ([2])) 2) 1,Rw 1 (ah (aH (fun c=>ae (bA 0 c)) (fun c=>(bA 0 c).length) 2)) 2,Rw 1 (ah (aH (fun c=>ae (ad (mk (bA 0 c).length (ae (bA 0 c))))) (fun c=>(ad (mk (bA 0 c).length (ae (bA 0 c)))).length) 2)) 2,Ni (3),fun w v=>Rw 1 (fun i _ v=>v = .agg #[.int .i64 (ae [3] i)]) 1 w v,Rw 2 (Nf (ae ([3])) 2) 1,Ni (4),fun w v=>Rw 1 (fun i _ v=>v = .agg #[.int .i64 (ae [4] i)]) 1 w v,Rw 2 (Nf (ae ([4])) 2) 1,Rw 1 (ah (aH (fun c=>ae (bA 1 c)) (fun c=>(bA 1 c).length) 2)) 2,Rw 1 (ah (aH (fun c=>ae (ad (mk (bA 1 c).length (ae (bA 1 c))))) (fun c=>(ad (mk (bA 1 c).length (ae (bA 1 c)))).length) 2)) 2,Rw 1 (ah (aw (fun r c=>ae (ad (mk (bA r c).length (ae (bA r c))))) (fun r c=>(ad (mk (bA r c).length (ae (bA r c)))).length) 2 2)) 2,Rw 2 (Nf (ae ([-2])) 2000) 1,Ni (-2),fun w v=>Rw 1 (fun i _ v=>v = .agg #[.int .i64 (ae [-2] i)]) 1 w v,fun w v=>Rw 4 (fun ι w v=>am w v ((((ae ([-2])) ι:Int):Rat)) 6) 1 w v]
def AA:List Step:=[.derive (.one (.ci .i64 1)) (.one (.lit (.ci .i64 1))) [] 0,
   .derive (.one (.ci .i64 2)) (.one (.lit (.ci .i64 2))) [] 3,
   .derive (.one (.ci .i64 3)) (.one (.lit (.ci .i64 3))) [] 8,
   .derive (.one (.ci .i64 4)) (.one (.lit (.ci .i64 4))) [] 11,
   .base ⟨0,[.any,.fact 0],[oS 1],.fresh [] (du 58 1)⟩,
   .base ⟨27,[.fact 1],[oS 2],false⟩,
   .base ⟨0,[.any,.fact 3],[oS 4],.fresh [] (du 58 1)⟩,
   .base ⟨27,[.fact 4],[oS 5],false⟩,
   .base ⟨0,[.any,.fact 2,.fact 5],[oS 6],.fresh [] (du 22 2)⟩,
   .base ⟨26,[.fact 6],[oS 7],false⟩,
   .base ⟨0,[.any,.fact 8],[oS 9],.fresh [] (du 58 1)⟩,
   .base ⟨27,[.fact 9],[oS 10],false⟩,
   .base ⟨0,[.any,.fact 11],[oS 12],.fresh [] (du 58 1)⟩,
   .base ⟨27,[.fact 12],[oS 13],false⟩,
   .base ⟨0,[.any,.fact 10,.fact 13],[oS 14],.fresh [] (du 22 2)⟩,
   .base ⟨26,[.fact 14],[oS 15],false⟩,
   .base ⟨0,[.any,.fact 7,.fact 15],[oS 16],.fresh [] (du 24 2)⟩,
   .base ⟨10,[.fact 16],[oS 17,oL (.ci .i64 0)],true⟩,
   .derive (.one (.ci .i64 (-2))) (.one (.lit (.ci .i64 (-2)))) [] 18,
   .base ⟨0,[.any,.fact 18],[oS 19],.fresh [] (du 58 1)⟩,
   .base ⟨28,[.fact 19],[oS 20],false⟩,
   .base ⟨12,[.fact 20,.fact 17],oT,false⟩]
def AB:List Out:=[]
theorem AC   : aj (ph (Az )) Try.prog ⟨11,[],oT,false⟩:=by
 skip
 exact aR AB oT AA Try.func11 (by kernel_rfl)
  (cA (gG rfl)
   (cA (gG rfl)
   (cA (gG rfl)
   (cA (gG rfl)
   (lB (fw (ps:=[0]) (sz:=1) (n:=1) (F:=(fun i _ v=>v = .agg #[.int .i64 (ae [1] i)])) (zc:=.one (.ci .i64 0)) Try.underlying58 (by kernel_rfl) (by omega) (by kernel_rfl) (by omega) (by omega) rfl (gD aa) rfl)
   (lB (jE (z:=ae [1]) (n:=1) (zs:=[1]) aa rfl (by omega) (gC (by decide)) (by decide))
   (lB (fw (ps:=[3]) (sz:=1) (n:=1) (F:=(fun i _ v=>v = .agg #[.int .i64 (ae [2] i)])) (zc:=.one (.ci .i64 0)) Try.underlying58 (by kernel_rfl) (by omega) (by kernel_rfl) (by omega) (by omega) rfl (gD aa) rfl)
   (lB (jE (z:=ae [2]) (n:=1) (zs:=[2]) aa rfl (by omega) (gC (by decide)) (by decide))
   (lB (nG (zc:=.one .nl) (F:=(aH (fun c=>ae (bA 0 c)) (fun c=>(bA 0 c).length) 2)) Try.underlying22 (by kernel_rfl) (by kernel_rfl) (slI _ _ _) (fun w v h=>Rw.to (sz:=2) (n:=1) (F:=(Nf (ae ([1])) 2)) h fun _ _ _ _ h=>au.i h) (fun w v h=>Rw.to (sz:=2) (n:=1) (F:=(Nf (ae ([2])) 2)) h fun _ _ _ _ h=>au.i h) rfl)
   (lB (ng (z:=(fun c=>ae (bA 0 c))) (ln:=(fun c=>(bA 0 c).length)) aa rfl (by omega) (by omega) (fun j=>Nat.le_trans (sd 0 j) (by omega)))
   (lB (fw (ps:=[8]) (sz:=1) (n:=1) (F:=(fun i _ v=>v = .agg #[.int .i64 (ae [3] i)])) (zc:=.one (.ci .i64 0)) Try.underlying58 (by kernel_rfl) (by omega) (by kernel_rfl) (by omega) (by omega) rfl (gD aa) rfl)
   (lB (jE (z:=ae [3]) (n:=1) (zs:=[3]) aa rfl (by omega) (gC (by decide)) (by decide))
   (lB (fw (ps:=[11]) (sz:=1) (n:=1) (F:=(fun i _ v=>v = .agg #[.int .i64 (ae [4] i)])) (zc:=.one (.ci .i64 0)) Try.underlying58 (by kernel_rfl) (by omega) (by kernel_rfl) (by omega) (by omega) rfl (gD aa) rfl)
   (lB (jE (z:=ae [4]) (n:=1) (zs:=[4]) aa rfl (by omega) (gC (by decide)) (by decide))
   (lB (nG (zc:=.one .nl) (F:=(aH (fun c=>ae (bA 1 c)) (fun c=>(bA 1 c).length) 2)) Try.underlying22 (by kernel_rfl) (by kernel_rfl) (slI _ _ _) (fun w v h=>Rw.to (sz:=2) (n:=1) (F:=(Nf (ae ([3])) 2)) h fun _ _ _ _ h=>au.i h) (fun w v h=>Rw.to (sz:=2) (n:=1) (F:=(Nf (ae ([4])) 2)) h fun _ _ _ _ h=>au.i h) rfl)
   (lB (ng (z:=(fun c=>ae (bA 1 c))) (ln:=(fun c=>(bA 1 c).length)) aa rfl (by omega) (by omega) (fun j=>Nat.le_trans (sd 1 j) (by omega)))
   (lB (nG (zc:=.one .nl) (F:=(aw (fun r c=>ae (ad (mk (bA r c).length (ae (bA r c))))) (fun r c=>(ad (mk (bA r c).length (ae (bA r c)))).length) 2 2)) Try.underlying24 (by kernel_rfl) (by kernel_rfl) (iG _ _ _ _) aa aa rfl)
   (lB (jF (z:=(fun r c=>ae (ad (mk (bA r c).length (ae (bA r c)))))) (ln:=(fun r c=>(ad (mk (bA r c).length (ae (bA r c)))).length)) (n:=2) (K:=2) (c:=1) (k:=1) aa (by rw [Aw];rfl) (by omega) (by omega) (by omega) (by omega) (fun i j _ _=>by rw [cX (nH i j).nrm];exact nH i j) (fun i j=>Nat.le_trans (Av i j) (by omega)))
   (cA (gG rfl)
   (lB (fw (ps:=[18]) (sz:=1) (n:=1) (F:=(fun i _ v=>v = .agg #[.int .i64 (ae [-2] i)])) (zc:=.one (.ci .i64 0)) Try.underlying58 (by kernel_rfl) (by omega) (by kernel_rfl) (by omega) (by omega) rfl (gD aa) rfl)
   (lB (rT (z:=ae [-2]) (n:=1) (L:=[-2]) aa rfl (by omega) (gC (by decide)) (by decide))
   (lB (jM (z:=(ae ([-2]))) (n:=1) (k:=2000) (kq:=6) aa aa (by omega) (by omega) (by omega))
   aA))))))))))))))))))))))
  (aJ [] trivial) bg
theorem ei {Φ:PH}:aj Φ Try.prog ⟨11,[],oT,false⟩:=aT AC trivial ⟨⟨rfl,trivial⟩,trivial⟩
theorem nJ {Φ:PH}{p x n K c k:Nat}{z:Nat->Nat->Nat->Int}{ln:Nat->Nat->Nat}{M:Nat->Nat->List Int} (hp:∀w v,Φ p w v->Rw 1 (ah (aw z ln n K)) n w v) (hx:Φ x=Rw 2 (Nf (ae (an n M)) 2000) (an n M).length) (hm:∀i j,ad (mk (ln i j) (z i j))=M i j) (hn:n<=4) (hK:K<=2000) (hc:c<=100) (hk:k<=100) (hM:∀i j,i<n->j<n->EOk c k (M i j)) (hln:∀i j,ln i j<=1000):aj Φ Try.prog ⟨10,[.fact p],[oS x,oL (.ci .i64 0)],true⟩:=by
 obtain rfl:(fun i k=>ad (mk (ln i k) (z i k)))=M:=by
  funext i j;exact hm i j
 exact jF hp hx hn hK hc hk hM hln
end Go.Proofs.Ytomamliepbhegaa.Sym
