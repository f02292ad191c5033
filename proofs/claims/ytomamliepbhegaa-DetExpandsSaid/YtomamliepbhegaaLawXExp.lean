/- DetExpands -/
import Derived.Test.YtomamliepbhegaaDtY
import Derived.Test.YtomamliepbhegaaDtP
import Derived.Test.YtomamliepbhegaaDtL
set_option maxRecDepth 100000
namespace Go.Proofs.Ytomamliepbhegaa.dexpands
open Go.ChangeShapes Go.WideShapes Go.ChangeAt Go.RowKit
open Go.Proofs.Ytomamliepbhegaa.Sym hiding val run start
open Go.Proofs.Ytomamliepbhegaa.dlaw
def nT (al:Nat->Nat->Bool) (xl:Nat->Nat->List Nat) (ml:Nat->Nat) (z:Nat->Nat->Int) (ln:Nat->Nat) (nl:Nat) (nz iz:Int) (N i:Nat):List WP:=[Rw 1 (bF al xl ml) nl,Ni nz,Ni iz,Nz N,Ni 1,Ni ((N+1:Nat):Int),Nz i,Rw 1 (ah (aw (fun i k=>z ((N+1)*i+k)) (fun i k=>ln ((N+1)*i+k)) (N+1) 1)) (N+1),Rw 1 (ah (aP (fun i k=>ad (mk (ln ((N+1)*i+k)) (z ((N+1)*i+k)))) (N+1) 5)) (N+1),fun w v=>Rw 2 (fun ι w v=>au w v ((ae (an (N+1) (fun i k=>ad (mk (ln ((N+1)*i+k)) (z ((N+1)*i+k)))))) ι) 2000) ((an (N+1) (fun i k=>ad (mk (ln ((N+1)*i+k)) (z ((N+1)*i+k))))).length) w v,fun w v=>Rw 2 (fun ι w v=>au w v ((ae (bS N i (fun i k=>ad (mk (ln ((N+1)*i+k)) (z ((N+1)*i+k)))) (N+1))) ι) 2000) (bS N i (fun i k=>ad (mk (ln ((N+1)*i+k)) (z ((N+1)*i+k)))) (N+1)).length w v]
def Br (z:Nat->Nat->Int) (ln:Nat->Nat) (N i:Nat) (k:Nat):List WP:=[Nz k,fun w v=>Rw 2 (fun ι w v=>au w v ((ae (bS N i (fun i k=>ad (mk (ln ((N+1)*i+k)) (z ((N+1)*i+k)))) k)) ι) 2000) (bS N i (fun i k=>ad (mk (ln ((N+1)*i+k)) (z ((N+1)*i+k)))) k).length w v,Rw 1 (ah (aw (fun r c=>ae (ad (mk (ln ((N+1)*(ab i r)+(ab k c))) (z ((N+1)*(ab i r)+(ab k c)))))) (fun r c=>(ad (mk (ln ((N+1)*(ab i r)+(ab k c))) (z ((N+1)*(ab i r)+(ab k c))))).length) N 1)) N,fun w v=>Rw 2 (fun ι w v=>au w v ((ae (an N (mnr (fun i k=>ad (mk (ln ((N+1)*i+k)) (z ((N+1)*i+k)))) i k))) ι) 2000) ((an N (mnr (fun i k=>ad (mk (ln ((N+1)*i+k)) (z ((N+1)*i+k)))) i k)).length) w v,Nz N,Nz N,Ptr 1 (ah (aw (fun i k=>z ((N+1)*i+k)) (fun i k=>ln ((N+1)*i+k)) (N+1) 1) i),Rw 1 (ah (aH ((fun i k=>z ((N+1)*i+k)) i) ((fun i k=>ln ((N+1)*i+k)) i) 1)) (N+1),Ptr 1 (ah (aH ((fun i k=>z ((N+1)*i+k)) i) ((fun i k=>ln ((N+1)*i+k)) i) 1) k),fun w v=>Rw 2 (fun ι w v=>aB w v ((z ((N+1)*i+k)) ι) 1) (ln ((N+1)*i+k)) w v,fun w v=>Rw 2 (fun ι w v=>au w v ((ae (aK (an N (mnr (fun i k=>ad (mk (ln ((N+1)*i+k)) (z ((N+1)*i+k)))) i k)) (ad (mk (ln ((N+1)*i+k)) (z ((N+1)*i+k)))))) ι) 2000) ((aK (an N (mnr (fun i k=>ad (mk (ln ((N+1)*i+k)) (z ((N+1)*i+k)))) i k)) (ad (mk (ln ((N+1)*i+k)) (z ((N+1)*i+k))))).length) w v,Ni ((i+k:Nat):Int),Ni (Int.tmod ((i+k:Nat):Int) 2),fun w v=>Rw 2 (fun ι w v=>au w v ((ae (bK (aK (an N (mnr (fun i k=>ad (mk (ln ((N+1)*i+k)) (z ((N+1)*i+k)))) i k)) (ad (mk (ln ((N+1)*i+k)) (z ((N+1)*i+k))))))) ι) 2000) ((bK (aK (an N (mnr (fun i k=>ad (mk (ln ((N+1)*i+k)) (z ((N+1)*i+k)))) i k)) (ad (mk (ln ((N+1)*i+k)) (z ((N+1)*i+k)))))).length) w v,fun w v=>Rw 2 (fun ι w v=>au w v ((ae (bo (bS N i (fun i k=>ad (mk (ln ((N+1)*i+k)) (z ((N+1)*i+k)))) k) (bK (aK (an N (mnr (fun i k=>ad (mk (ln ((N+1)*i+k)) (z ((N+1)*i+k)))) i k)) (ad (mk (ln ((N+1)*i+k)) (z ((N+1)*i+k)))))))) ι) 2000) ((bo (bS N i (fun i k=>ad (mk (ln ((N+1)*i+k)) (z ((N+1)*i+k)))) k) (bK (aK (an N (mnr (fun i k=>ad (mk (ln ((N+1)*i+k)) (z ((N+1)*i+k)))) i k)) (ad (mk (ln ((N+1)*i+k)) (z ((N+1)*i+k))))))).length) w v,Nz (k+1),Rw 1 (ah (aw (fun r c=>ae (ad (mk (ln ((N+1)*(ab i r)+(ab k c))) (z ((N+1)*(ab i r)+(ab k c)))))) (fun r c=>(ad (mk (ln ((N+1)*(ab i r)+(ab k c))) (z ((N+1)*(ab i r)+(ab k c))))).length) N 1)) N,fun w v=>Rw 2 (fun ι w v=>au w v ((ae (an N (mnr (fun i k=>ad (mk (ln ((N+1)*i+k)) (z ((N+1)*i+k)))) i k))) ι) 2000) ((an N (mnr (fun i k=>ad (mk (ln ((N+1)*i+k)) (z ((N+1)*i+k)))) i k)).length) w v,Nz N,Nz N,Ptr 1 (ah (aw (fun i k=>z ((N+1)*i+k)) (fun i k=>ln ((N+1)*i+k)) (N+1) 1) i),Rw 1 (ah (aH ((fun i k=>z ((N+1)*i+k)) i) ((fun i k=>ln ((N+1)*i+k)) i) 1)) (N+1),Ptr 1 (ah (aH ((fun i k=>z ((N+1)*i+k)) i) ((fun i k=>ln ((N+1)*i+k)) i) 1) k),fun w v=>Rw 2 (fun ι w v=>aB w v ((z ((N+1)*i+k)) ι) 1) (ln ((N+1)*i+k)) w v,fun w v=>Rw 2 (fun ι w v=>au w v ((ae (aK (an N (mnr (fun i k=>ad (mk (ln ((N+1)*i+k)) (z ((N+1)*i+k)))) i k)) (ad (mk (ln ((N+1)*i+k)) (z ((N+1)*i+k)))))) ι) 2000) ((aK (an N (mnr (fun i k=>ad (mk (ln ((N+1)*i+k)) (z ((N+1)*i+k)))) i k)) (ad (mk (ln ((N+1)*i+k)) (z ((N+1)*i+k))))).length) w v,Ni ((i+k:Nat):Int),Ni (Int.tmod ((i+k:Nat):Int) 2),fun w v=>Rw 2 (fun ι w v=>au w v ((ae (bo (bS N i (fun i k=>ad (mk (ln ((N+1)*i+k)) (z ((N+1)*i+k)))) k) (aK (an N (mnr (fun i k=>ad (mk (ln ((N+1)*i+k)) (z ((N+1)*i+k)))) i k)) (ad (mk (ln ((N+1)*i+k)) (z ((N+1)*i+k))))))) ι) 2000) ((bo (bS N i (fun i k=>ad (mk (ln ((N+1)*i+k)) (z ((N+1)*i+k)))) k) (aK (an N (mnr (fun i k=>ad (mk (ln ((N+1)*i+k)) (z ((N+1)*i+k)))) i k)) (ad (mk (ln ((N+1)*i+k)) (z ((N+1)*i+k)))))).length) w v,Nz (k+1)]
def sI:bf:=⟨[0,1,2,6,7,8,9,10,17,18,19,20,21,22,23,24,25,26,27,28,29,30,31,32,33,34],[(.slot 12,.i),(.slot 11,.s)],[(.one 0,11),(.one 1,12)],[.closed (.one (.ci .i64 0)),.closed (.one (.nl))],11,[(12,10)]⟩
def sJ:List Step:=[bQ [.fact 11,.fact 5] oT (ai .lss),
   .base ⟨14,[.fact 6,.fact 11,.fact 7],[oS 13,oL (.ci .i64 0)],true⟩,
   .base ⟨10,[.fact 13],[oS 14,oL (.ci .i64 0)],true⟩,
   bQ [.fact 13] [oN 15] (aD 24),
   bQ [.fact 5,.lit (.ci .i64 1)] [oN 16] (ai .sub),
   bQ [.fact 15,.fact 16] oF (ai .neq),
   bQ [.fact 7,.fact 6] [oP 17] (aI 24),
   bQ [.fact 17] [oS 18] (aL 22),
   bQ [.fact 18,.fact 11] [oP 19] (aI 22),
   bQ [.fact 19] [oS 20] (aL 29),
   .base ⟨20,[.fact 14,.fact 20],[oS 21],false⟩,
   bQ [.fact 6,.fact 11] [oN 22] (ai .add),
   bQ [.fact 22,.lit (.ci .i64 2)] [oN 23] (dY),
   bQ [.fact 23,.lit (.ci .i64 1)] oT (ai .eql),
   .base ⟨22,[.fact 21],[oS 24],false⟩,
   .base ⟨19,[.fact 12,.fact 24],[oS 25],false⟩,
   bQ [.fact 11,.lit (.ci .i64 1)] [oN 26] (ai .add)]
def sK:List Step:=[bQ [.fact 11,.fact 5] oT (ai .lss),
   .base ⟨14,[.fact 6,.fact 11,.fact 7],[oS 27,oL (.ci .i64 0)],true⟩,
   .base ⟨10,[.fact 27],[oS 28,oL (.ci .i64 0)],true⟩,
   bQ [.fact 27] [oN 29] (aD 24),
   bQ [.fact 5,.lit (.ci .i64 1)] [oN 30] (ai .sub),
   bQ [.fact 29,.fact 30] oF (ai .neq),
   bQ [.fact 7,.fact 6] [oP 31] (aI 24),
   bQ [.fact 31] [oS 32] (aL 22),
   bQ [.fact 32,.fact 11] [oP 33] (aI 22),
   bQ [.fact 33] [oS 34] (aL 29),
   .base ⟨20,[.fact 28,.fact 34],[oS 35],false⟩,
   bQ [.fact 6,.fact 11] [oN 36] (ai .add),
   bQ [.fact 36,.lit (.ci .i64 2)] [oN 37] (dY),
   bQ [.fact 37,.lit (.ci .i64 1)] oF (ai .eql),
   .base ⟨19,[.fact 12,.fact 35],[oS 38],false⟩,
   bQ [.fact 11,.lit (.ci .i64 1)] [oN 39] (ai .add)]
def Bs:List Step:=[bQ [.fact 11,.fact 5] oF (ai .lss)]
def Bu:List Step:=[.derive (.one (.ci .i64 1)) (.one (.lit (.ci .i64 1))) [] 4,
   .base ⟨8,[.fact 1,.lit (.ci .i64 4)],[oN 3],false⟩,
   bQ [.fact 4,.fact 3] [oN 5] (ai .add),
   .base ⟨8,[.fact 2,.fact 5],[oN 6],false⟩,
   .base ⟨9,[.fact 0,.fact 5,.fact 5],[oS 7,oS 8],true⟩,
   .base ⟨10,[.fact 7],[oS 9,oL (.ci .i64 0)],true⟩,
   .loop sI [(sJ,[.frm 26,.frm 25]),(sK,[.frm 39,.frm 38])] Bs,
   .base ⟨21,[.fact 10,.fact 9],oT,false⟩,
   .base ⟨11,[],oT,false⟩]
def Bv:List Out:=[oS 0,oN 1,oN 2]
theorem path {al:Nat->Nat->Bool}{xl:Nat->Nat->List Nat}{ml:Nat->Nat}{z:Nat->Nat->Int}{ln:Nat->Nat}{nl:Nat}{nz iz:Int}{N i:Nat} (hnl:nl<=9223372036854775807) (hml:∀q,ml q<=9223372036854775807) (hz:∀q j,sg (al q j) (Proofs.Ytomamliepbhegaa.val 4294967296 ((xl q j).take 1))=z q j) (hN:∀q,q<nl->min (ml q) 3=ln q) (hN0:∀q,¬q<nl->ln q=0) (hln:∀q,ln q<=3) (hE:∀q,EOk 3 1 (ad (mk (ln q) (z q)))) (bw:bX nz 4=N) (hN4:N<4) (hiw:bX iz (N+1)=i) (hi:i<N+1):aj (ph (nT al xl ml z ln nl nz iz N i)) Try.prog ⟨7,[.fact 0,.fact 1,.fact 2],oT,false⟩:=by
 have hD:∀k,EOk (N*3+1) (bD 3 1 N) (an N (mnr (fun i k=>ad (mk (ln ((N+1)*i+k)) (z ((N+1)*i+k)))) i k)):=fun k=>fU (c:=3) (k:=1) N _ fun _ _ _ _=>hE _
 have hbd:=lh (c:=3) (k:=1) (by omega) (by omega) N (by omega)
 have hX:∀k,k<N+1->EOk (N*3+1+3) (bD 3 1 N+1+(N*3+1)) (aK (an N (mnr (fun i k=>ad (mk (ln ((N+1)*i+k)) (z ((N+1)*i+k)))) i k)) (ad (mk (ln ((N+1)*i+k)) (z ((N+1)*i+k))))):=fun k _=>(hD k).mul (hE _)
 have hs:=sb (n:=N) (i:=i) (c:=3) (k:=1) (c':=N*3+1) (k':=bD 3 1 N) (m:=N+1) (M:=(fun i k=>ad (mk (ln ((N+1)*i+k)) (z ((N+1)*i+k))))) (fun j _=>hE _) (fun j _=>hD j)
 have hDD:=fU (c:=3) (k:=1) (N+1) (fun i k=>ad (mk (ln ((N+1)*i+k)) (z ((N+1)*i+k)))) (fun _ _ _ _=>hE _)
 exact aR Bv oT Bu Try.func7 (by kernel_rfl)
  (cA (gM rfl)
   (lB (cZ (n:=4) rfl aa (by omega) (by omega) bw rfl)
   (lB (cS aa aa (by omega) rfl (by omega) (by omega))
   (lB (Ah (n:=(N+1)) aa aa (by omega) (by omega) hiw rfl)
   (lB (eh (n:=(N+1)) (m:=(N+1)) (ml:=ml) (ln:=ln) (z:=z) aa aa aa rfl rfl (by omega) (by omega) hnl hml hz hN hN0 (fun q=>Nat.le_trans (hln q) (by omega)))
   (lB (nJ (M:=(fun i k=>ad (mk (ln ((N+1)*i+k)) (z ((N+1)*i+k))))) (z:=(fun i k=>z ((N+1)*i+k))) (ln:=(fun i k=>ln ((N+1)*i+k))) (K:=1) (n:=(N+1)) (c:=3) (k:=1) aa rfl (fun _ _=>rfl) (by omega) (by omega) (by omega) (by omega) (fun _ _ _ _=>hE _) ((fun _ _=>Nat.le_trans (hln _) (by omega))))
   (bI (counted (N+1) (fun k=>ph (nT al xl ml z ln nl nz iz N i ++ Br z ln N i k)) (fun k=>if (i+k) % 2=1 then 0 else 1) (fun k p hp=>bJ (show p<(nT al xl ml z ln nl nz iz N i).length from hp)) ⟨fun _=>rfl,fun w=>Rw.nil 2 (fun ι w v=>au w v ((ae (bS N i (fun i k=>ad (mk (ln ((N+1)*i+k)) (z ((N+1)*i+k)))) 0)) ι) 2000) w,trivial⟩ (fun k hk=>by
   skip
   by_cases hck:(i+k) % 2=1
   ·skip
    exact ⟨(sJ,[.frm 26,.frm 25]),by rw [if_pos hck];rfl,⟨aa,fun w v h=>show Rw 2 (fun ι w v=>au w v ((ae (bS N i (fun i k=>ad (mk (ln ((N+1)*i+k)) (z ((N+1)*i+k)))) (k+1))) ι) 2000) (bS N i (fun i k=>ad (mk (ln ((N+1)*i+k)) (z ((N+1)*i+k)))) (k+1)).length w v by rw [bS,Le,if_pos hck];exact h,trivial⟩,(lB (bm aa aa)
   (lB (nm (n1:=N) (z:=(fun i k=>z ((N+1)*i+k))) (ln:=(fun i k=>ln ((N+1)*i+k))) (K:=1) (n:=(N+1)) (i:=i) (j:=k) aa aa aa rfl (by omega) (by omega) (by omega) (by omega) (by omega) (fun _ _=>Nat.le_trans (hln _) (by omega)))
   (lB (nJ (M:=(mnr (fun i k=>ad (mk (ln ((N+1)*i+k)) (z ((N+1)*i+k)))) i k)) (z:=(fun r c=>ae (ad (mk (ln ((N+1)*(ab i r)+(ab k c))) (z ((N+1)*(ab i r)+(ab k c))))))) (ln:=(fun r c=>(ad (mk (ln ((N+1)*(ab i r)+(ab k c))) (z ((N+1)*(ab i r)+(ab k c))))).length)) (K:=1) (n:=N) (c:=3) (k:=1) aa rfl (fun _ _=>cX (Ln _)) (by omega) (by omega) (by omega) (by omega) (fun _ _ _ _=>hE _) ((fun _ _=>Nat.le_trans (hE _).len (by omega))))
   (lB (aG (F:=(ah (aw (fun r c=>ae (ad (mk (ln ((N+1)*(ab i r)+(ab k c))) (z ((N+1)*(ab i r)+(ab k c)))))) (fun r c=>(ad (mk (ln ((N+1)*(ab i r)+(ab k c))) (z ((N+1)*(ab i r)+(ab k c))))).length) N 1))) Try.underlying24 aa rfl)
   (lB (Lc aa (by omega) rfl (by omega) (by omega))
   (lB (cM (op:=.neq) aa aa (aS (decide_eq_false (fun h=>h (by omega))) (by simp)))
   (lB (bc (i:=i) (F:=(ah (aw (fun i k=>z ((N+1)*i+k)) (fun i k=>ln ((N+1)*i+k)) (N+1) 1))) Try.underlying24 (by kernel_rfl) aa aa (by omega) rfl)
   (lB (KU (G:=Rw 1 (ah (aH ((fun i k=>z ((N+1)*i+k)) i) ((fun i k=>ln ((N+1)*i+k)) i) 1)) (N+1)) (by kernel_rfl) aa (fun _ _ h=>bO h) rfl)
   (lB (bc (i:=k) (F:=(ah (aH ((fun i k=>z ((N+1)*i+k)) i) ((fun i k=>ln ((N+1)*i+k)) i) 1))) Try.underlying22 (by kernel_rfl) aa aa (by omega) rfl)
   (lB (KU (G:=fun w v=>Rw 2 (fun ι w v=>aB w v ((z ((N+1)*i+k)) ι) 1) (ln ((N+1)*i+k)) w v) (by kernel_rfl) aa (fun _ _ h=>bO h) rfl)
   (lB (lf (c:=10) (A:=(an N (mnr (fun i k=>ad (mk (ln ((N+1)*i+k)) (z ((N+1)*i+k)))) i k))) (B:=(ad (mk (ln ((N+1)*i+k)) (z ((N+1)*i+k))))) (z:=(ae (an N (mnr (fun i k=>ad (mk (ln ((N+1)*i+k)) (z ((N+1)*i+k)))) i k)))) (n:=(an N (mnr (fun i k=>ad (mk (ln ((N+1)*i+k)) (z ((N+1)*i+k)))) i k)).length) (y:=(z ((N+1)*i+k))) (m:=(ln ((N+1)*i+k))) (k:=2000) (l:=1) (K:=2000) (Rw.To 2 (fun ι w v=>au w v ((ae (an N (mnr (fun i k=>ad (mk (ln ((N+1)*i+k)) (z ((N+1)*i+k)))) i k))) ι) 2000) ((an N (mnr (fun i k=>ad (mk (ln ((N+1)*i+k)) (z ((N+1)*i+k)))) i k)).length) (fun _ _ _ _ h=>au.i h)) (Rw.To 2 (fun ι w v=>aB w v ((z ((N+1)*i+k)) ι) 1) (ln ((N+1)*i+k)) (fun _ _ _ _ h=>h)) (cX (jy _ _)) (rfl) rfl (by have:=(hD k).len;omega) (by have:=hln ((N+1)*i+k);omega) (by omega) (by omega) (by omega) (fun j=>((hX k hk).bd j).more (by omega)))
   (lB (cS aa aa (by omega) rfl (by omega) (by omega))
   (lB (eB aa (by decide) rfl)
   (lB (bi (op:=.eql) aa (aS (decide_eq_true (by have:=Int.tmod_eq_emod_of_nonneg (a:=((i+k:Nat):Int)) (b:=2) (by omega);omega)) (by simp)))
   (lB (zR (A:=(aK (an N (mnr (fun i k=>ad (mk (ln ((N+1)*i+k)) (z ((N+1)*i+k)))) i k)) (ad (mk (ln ((N+1)*i+k)) (z ((N+1)*i+k)))))) (z:=(ae (aK (an N (mnr (fun i k=>ad (mk (ln ((N+1)*i+k)) (z ((N+1)*i+k)))) i k)) (ad (mk (ln ((N+1)*i+k)) (z ((N+1)*i+k))))))) (n:=(aK (an N (mnr (fun i k=>ad (mk (ln ((N+1)*i+k)) (z ((N+1)*i+k)))) i k)) (ad (mk (ln ((N+1)*i+k)) (z ((N+1)*i+k))))).length) (k:=2000) (Rw.To 2 (fun ι w v=>au w v ((ae (aK (an N (mnr (fun i k=>ad (mk (ln ((N+1)*i+k)) (z ((N+1)*i+k)))) i k)) (ad (mk (ln ((N+1)*i+k)) (z ((N+1)*i+k)))))) ι) 2000) ((aK (an N (mnr (fun i k=>ad (mk (ln ((N+1)*i+k)) (z ((N+1)*i+k)))) i k)) (ad (mk (ln ((N+1)*i+k)) (z ((N+1)*i+k))))).length) (fun _ _ _ _ h=>au.i h)) (cX (hX k hk).nrm) rfl (by have:=(hX k hk).len;omega) (by omega))
   (lB (ne (A:=(bS N i (fun i k=>ad (mk (ln ((N+1)*i+k)) (z ((N+1)*i+k)))) k)) (B:=(bK (aK (an N (mnr (fun i k=>ad (mk (ln ((N+1)*i+k)) (z ((N+1)*i+k)))) i k)) (ad (mk (ln ((N+1)*i+k)) (z ((N+1)*i+k))))))) (z:=(ae (bS N i (fun i k=>ad (mk (ln ((N+1)*i+k)) (z ((N+1)*i+k)))) k))) (n:=(bS N i (fun i k=>ad (mk (ln ((N+1)*i+k)) (z ((N+1)*i+k)))) k).length) (y:=(ae (bK (aK (an N (mnr (fun i k=>ad (mk (ln ((N+1)*i+k)) (z ((N+1)*i+k)))) i k)) (ad (mk (ln ((N+1)*i+k)) (z ((N+1)*i+k)))))))) (m:=(bK (aK (an N (mnr (fun i k=>ad (mk (ln ((N+1)*i+k)) (z ((N+1)*i+k)))) i k)) (ad (mk (ln ((N+1)*i+k)) (z ((N+1)*i+k)))))).length) (k:=2000) (l:=2000) (K:=2000) (Rw.To 2 (fun ι w v=>au w v ((ae (bS N i (fun i k=>ad (mk (ln ((N+1)*i+k)) (z ((N+1)*i+k)))) k)) ι) 2000) ((bS N i (fun i k=>ad (mk (ln ((N+1)*i+k)) (z ((N+1)*i+k)))) k).length) (fun _ _ _ _ h=>au.i h)) (Rw.To 2 (fun ι w v=>au w v ((ae (bK (aK (an N (mnr (fun i k=>ad (mk (ln ((N+1)*i+k)) (z ((N+1)*i+k)))) i k)) (ad (mk (ln ((N+1)*i+k)) (z ((N+1)*i+k))))))) ι) 2000) ((bK (aK (an N (mnr (fun i k=>ad (mk (ln ((N+1)*i+k)) (z ((N+1)*i+k)))) i k)) (ad (mk (ln ((N+1)*i+k)) (z ((N+1)*i+k)))))).length) (fun _ _ _ _ h=>au.i h)) (cX (lq _ _ _ _)) (cX (mV (hX k hk).nrm)) rfl (by have:=(hs k (by omega)).len;omega) (by have:=(hX k hk).neg.len;omega) (by omega) (by omega) (fun j=>by have:=((hs (k+1) (by omega)).bd j).more (show _<=2000 by omega);rw [bS,Le,if_pos hck] at this;exact this))
   (lB (bt aa (by omega) rfl (by omega) (by omega))
   aA)))))))))))))))))⟩
   ·skip
    exact ⟨(sK,[.frm 39,.frm 38]),by rw [if_neg hck];rfl,⟨aa,fun w v h=>show Rw 2 (fun ι w v=>au w v ((ae (bS N i (fun i k=>ad (mk (ln ((N+1)*i+k)) (z ((N+1)*i+k)))) (k+1))) ι) 2000) (bS N i (fun i k=>ad (mk (ln ((N+1)*i+k)) (z ((N+1)*i+k)))) (k+1)).length w v by rw [bS,Le,if_neg hck];exact h,trivial⟩,(lB (bm aa aa)
   (lB (nm (n1:=N) (z:=(fun i k=>z ((N+1)*i+k))) (ln:=(fun i k=>ln ((N+1)*i+k))) (K:=1) (n:=(N+1)) (i:=i) (j:=k) aa aa aa rfl (by omega) (by omega) (by omega) (by omega) (by omega) (fun _ _=>Nat.le_trans (hln _) (by omega)))
   (lB (nJ (M:=(mnr (fun i k=>ad (mk (ln ((N+1)*i+k)) (z ((N+1)*i+k)))) i k)) (z:=(fun r c=>ae (ad (mk (ln ((N+1)*(ab i r)+(ab k c))) (z ((N+1)*(ab i r)+(ab k c))))))) (ln:=(fun r c=>(ad (mk (ln ((N+1)*(ab i r)+(ab k c))) (z ((N+1)*(ab i r)+(ab k c))))).length)) (K:=1) (n:=N) (c:=3) (k:=1) aa rfl (fun _ _=>cX (Ln _)) (by omega) (by omega) (by omega) (by omega) (fun _ _ _ _=>hE _) ((fun _ _=>Nat.le_trans (hE _).len (by omega))))
   (lB (aG (F:=(ah (aw (fun r c=>ae (ad (mk (ln ((N+1)*(ab i r)+(ab k c))) (z ((N+1)*(ab i r)+(ab k c)))))) (fun r c=>(ad (mk (ln ((N+1)*(ab i r)+(ab k c))) (z ((N+1)*(ab i r)+(ab k c))))).length) N 1))) Try.underlying24 aa rfl)
   (lB (Lc aa (by omega) rfl (by omega) (by omega))
   (lB (cM (op:=.neq) aa aa (aS (decide_eq_false (fun h=>h (by omega))) (by simp)))
   (lB (bc (i:=i) (F:=(ah (aw (fun i k=>z ((N+1)*i+k)) (fun i k=>ln ((N+1)*i+k)) (N+1) 1))) Try.underlying24 (by kernel_rfl) aa aa (by omega) rfl)
   (lB (KU (G:=Rw 1 (ah (aH ((fun i k=>z ((N+1)*i+k)) i) ((fun i k=>ln ((N+1)*i+k)) i) 1)) (N+1)) (by kernel_rfl) aa (fun _ _ h=>bO h) rfl)
   (lB (bc (i:=k) (F:=(ah (aH ((fun i k=>z ((N+1)*i+k)) i) ((fun i k=>ln ((N+1)*i+k)) i) 1))) Try.underlying22 (by kernel_rfl) aa aa (by omega) rfl)
   (lB (KU (G:=fun w v=>Rw 2 (fun ι w v=>aB w v ((z ((N+1)*i+k)) ι) 1) (ln ((N+1)*i+k)) w v) (by kernel_rfl) aa (fun _ _ h=>bO h) rfl)
   (lB (lf (c:=10) (A:=(an N (mnr (fun i k=>ad (mk (ln ((N+1)*i+k)) (z ((N+1)*i+k)))) i k))) (B:=(ad (mk (ln ((N+1)*i+k)) (z ((N+1)*i+k))))) (z:=(ae (an N (mnr (fun i k=>ad (mk (ln ((N+1)*i+k)) (z ((N+1)*i+k)))) i k)))) (n:=(an N (mnr (fun i k=>ad (mk (ln ((N+1)*i+k)) (z ((N+1)*i+k)))) i k)).length) (y:=(z ((N+1)*i+k))) (m:=(ln ((N+1)*i+k))) (k:=2000) (l:=1) (K:=2000) (Rw.To 2 (fun ι w v=>au w v ((ae (an N (mnr (fun i k=>ad (mk (ln ((N+1)*i+k)) (z ((N+1)*i+k)))) i k))) ι) 2000) ((an N (mnr (fun i k=>ad (mk (ln ((N+1)*i+k)) (z ((N+1)*i+k)))) i k)).length) (fun _ _ _ _ h=>au.i h)) (Rw.To 2 (fun ι w v=>aB w v ((z ((N+1)*i+k)) ι) 1) (ln ((N+1)*i+k)) (fun _ _ _ _ h=>h)) (cX (jy _ _)) (rfl) rfl (by have:=(hD k).len;omega) (by have:=hln ((N+1)*i+k);omega) (by omega) (by omega) (by omega) (fun j=>((hX k hk).bd j).more (by omega)))
   (lB (cS aa aa (by omega) rfl (by omega) (by omega))
   (lB (eB aa (by decide) rfl)
   (lB (bi (op:=.eql) aa (aS (decide_eq_false (by have:=Int.tmod_eq_emod_of_nonneg (a:=((i+k:Nat):Int)) (b:=2) (by omega);omega)) (by simp)))
   (lB (ne (A:=(bS N i (fun i k=>ad (mk (ln ((N+1)*i+k)) (z ((N+1)*i+k)))) k)) (B:=(aK (an N (mnr (fun i k=>ad (mk (ln ((N+1)*i+k)) (z ((N+1)*i+k)))) i k)) (ad (mk (ln ((N+1)*i+k)) (z ((N+1)*i+k)))))) (z:=(ae (bS N i (fun i k=>ad (mk (ln ((N+1)*i+k)) (z ((N+1)*i+k)))) k))) (n:=(bS N i (fun i k=>ad (mk (ln ((N+1)*i+k)) (z ((N+1)*i+k)))) k).length) (y:=(ae (aK (an N (mnr (fun i k=>ad (mk (ln ((N+1)*i+k)) (z ((N+1)*i+k)))) i k)) (ad (mk (ln ((N+1)*i+k)) (z ((N+1)*i+k))))))) (m:=(aK (an N (mnr (fun i k=>ad (mk (ln ((N+1)*i+k)) (z ((N+1)*i+k)))) i k)) (ad (mk (ln ((N+1)*i+k)) (z ((N+1)*i+k))))).length) (k:=2000) (l:=2000) (K:=2000) (Rw.To 2 (fun ι w v=>au w v ((ae (bS N i (fun i k=>ad (mk (ln ((N+1)*i+k)) (z ((N+1)*i+k)))) k)) ι) 2000) ((bS N i (fun i k=>ad (mk (ln ((N+1)*i+k)) (z ((N+1)*i+k)))) k).length) (fun _ _ _ _ h=>au.i h)) (Rw.To 2 (fun ι w v=>au w v ((ae (aK (an N (mnr (fun i k=>ad (mk (ln ((N+1)*i+k)) (z ((N+1)*i+k)))) i k)) (ad (mk (ln ((N+1)*i+k)) (z ((N+1)*i+k)))))) ι) 2000) ((aK (an N (mnr (fun i k=>ad (mk (ln ((N+1)*i+k)) (z ((N+1)*i+k)))) i k)) (ad (mk (ln ((N+1)*i+k)) (z ((N+1)*i+k))))).length) (fun _ _ _ _ h=>au.i h)) (cX (lq _ _ _ _)) (cX (hX k hk).nrm) rfl (by have:=(hs k (by omega)).len;omega) (by have:=(hX k hk).len;omega) (by omega) (by omega) (fun j=>by have:=((hs (k+1) (by omega)).bd j).more (show _<=2000 by omega);rw [bS,Le,if_neg hck] at this;exact this))
   (lB (bt aa (by omega) rfl (by omega) (by omega))
   aA))))))))))))))))⟩
)
   (lB (tlF aa aa)
   aA)
   (fun q hq w v h=>by
    simp only [sI,List.mem_cons,List.not_mem_nil,or_false] at hq
    rcases hq with rfl
    ·exact (fun h=>h) h)) (lB (Bw (z:=(ae (bS N i (fun i k=>ad (mk (ln ((N+1)*i+k)) (z ((N+1)*i+k)))) (N+1)))) (n:=(bS N i (fun i k=>ad (mk (ln ((N+1)*i+k)) (z ((N+1)*i+k)))) (N+1)).length) (y:=(ae (an (N+1) (fun i k=>ad (mk (ln ((N+1)*i+k)) (z ((N+1)*i+k))))))) (m:=(an (N+1) (fun i k=>ad (mk (ln ((N+1)*i+k)) (z ((N+1)*i+k))))).length) (k:=2000) (l:=2000) (Rw.To 2 (fun ι w v=>au w v ((ae (bS N i (fun i k=>ad (mk (ln ((N+1)*i+k)) (z ((N+1)*i+k)))) (N+1))) ι) 2000) ((bS N i (fun i k=>ad (mk (ln ((N+1)*i+k)) (z ((N+1)*i+k)))) (N+1)).length) (fun _ _ _ _ h=>au.i h)) (Rw.To 2 (fun ι w v=>au w v ((ae (an (N+1) (fun i k=>ad (mk (ln ((N+1)*i+k)) (z ((N+1)*i+k)))))) ι) 2000) ((an (N+1) (fun i k=>ad (mk (ln ((N+1)*i+k)) (z ((N+1)*i+k))))).length) (fun _ _ _ _ h=>au.i h)) (by have:=(hs (N+1) (by omega)).len;omega) (by have:=hDD.len;omega) (by omega) (by omega) (zO (A:=(an (N+1) (fun i k=>ad (mk (ln ((N+1)*i+k)) (z ((N+1)*i+k)))))) (Au (fun i k=>ad (mk (ln ((N+1)*i+k)) (z ((N+1)*i+k)))) hN4 hi▸cX (lq _ _ _ _)) (cX (jy _ _))))
   (lB (ei)
   aA)))))))))
  (aJ [.fact 0 (.one (.s)),.fact 1 (.one (.i)),.fact 2 (.one (.i))] ⟨Rw.Is 1 (bF al xl ml) nl,fun _ _ h=>h▸aQ _,fun _ _ h=>h▸aQ _,trivial⟩) (fun _ _ _ h=>h)
theorem walk {nl:Nat}{ml:Nat->Nat}{al:Nat->Nat->Bool}{xl:Nat->Nat->List Nat}{w:World}{vl:Value} (hnl:nl<=9223372036854775807∧∀i,i<nl->ml i<=9223372036854775807) (hll:Rw 1 (bF al xl ml) nl w vl) (nz:Int) (_ : -9223372036854775808<=nz) (_:nz<=9223372036854775807) (iz:Int) (_ : -9223372036854775808<=iz) (_:iz<=9223372036854775807):Calls Try.prog 7 #[vl,.int .i64 nz,.int .i64 iz] w (lE w true):=by
 obtain ⟨gI,z,ln,dO,hml,hz,hN,hN0,hln,hE⟩:=np hnl hll
 obtain ⟨N,bw⟩:∃N,bX nz 4=N:=⟨_,rfl⟩
 obtain ⟨i,hiw⟩:∃i,bX iz (N+1)=i:=⟨_,rfl⟩
 exact ek (path hnl.1 hml hz hN hN0 hln hE bw (bw▸jR _ (by omega)) hiw (hiw▸jR _ (by omega))) (vs:=[vl,.int .i64 nz,.int .i64 iz]) ⟨eg dO,fun _ _=>rfl,fun _ _=>rfl,trivial⟩
theorem lifted (os:Os) (started:os.Started) (H:Type) (enc:TypeId×Value->H) :
  ReturnsInHanded {} Try.checked os 7 .any (Rows.detExpandsSpec.pre6 enc Try.prog Try.f7 Rows.detExpandsRow.domain false) (Rows.detExpandsSpec.post enc Try.prog Try.f7 false true false false):=by
 refine returnsInHanded_of_change (C:=Try.checked) Try.own started (by kernel_rfl) Try.func7
  (ChangeSpec.witness6 (enc:=enc) (C:=Try.checked) false ⟨#[],#[.slice none 0 0,.int .i64 0,.int .i64 0],[]⟩ 8 (by kernel_rfl) (by kernel_rfl) (by kernel_rfl) (by kernel_rfl)) ?_
 intro W base args ds gs before hval0 hW _ _
 have hval:∀(j:Nat) t v,Try.f7.params[j]?=some t->args[j]?=some v->Value.okWide Try.prog W .any base t v:=hval0
 obtain ⟨p,q,hA0,hV,rfl,_,_⟩:=id hW
 have hA:DataW.TrodAll enc Try.prog W 0 (fun _=>true) true Try.f7.params.toList args.toList ds p:=hA0
 rw [Try.params7] at hA hval
 obtain ⟨v0,sG,d0,ds0,p0,q0,hargs,rfl,rfl,h0,r0⟩:=trodAll_cons hA
 obtain ⟨v1,vs1,d1,ds1,p1,q1,rfl,rfl,rfl,h1,r1⟩:=trodAll_cons r0
 obtain ⟨v2,vs2,d2,sH,p2,q2,rfl,rfl,rfl,h2,r2⟩:=trodAll_cons r1
 obtain ⟨rfl,rfl,rfl⟩:=trodAll_nil r2
 obtain rfl:args = #[v0,v1,v2]:=by cases args;simp_all
 obtain ⟨n0,m0,a0,xs0,l0,s0⟩:=no h0 (hval 0 22 v0 rfl rfl)
 obtain ⟨n1,rfl,rfl,rfl,f1⟩:=open_int Try.underlying3 (hval 1 3 v1 rfl rfl) h1
 obtain ⟨n2,rfl,rfl,rfl,f2⟩:=open_int Try.underlying3 (hval 2 3 v2 rfl rfl) h2
 refine (walk l0 s0 n1 (gK f1) (gL f1) n2 (gK f2) (gL f2)).mono fun e W' ⟨he,hg⟩=>?_
 subst he
 refine ⟨_,rfl,nS Try.laidOut rfl (by kernel_rfl) Try.underlying4 ?_ ?_ hW hg⟩
 ·rw [Try.params7];decide +kernel
 ·rw [Try.params7]
  intro ds h
  match ds,h with
  | [_,_,_],_=>rfl
theorem holds:Rows.DetExpandsSaid:=
 OpenClaim.holds_of_wide 7 Try.f7 rfl rfl rfl rfl rfl rfl rfl ⟨rfl,rfl,rfl,rfl,rfl⟩ rfl rfl rfl rfl rfl (by kernel_rfl) Try.func7 (by kernel_rfl)
  (of_decide_eq_true (by kernel_rfl)) (by unfold Func.isWrapper;first | (rw [if_pos (by decide +kernel)];kernel_rfl) | (rw [if_neg (by decide +kernel)];exact ⟨rfl,rfl⟩))
  (fun os started H enc _=>lifted os started H enc)
end Go.Proofs.Ytomamliepbhegaa.dexpands
