/- Package det -/
import Derived.Test.YtlmanbjkkjfjgaaGreatDtL
import Derived.KernelRfl
set_option maxRecDepth 100000
namespace Go.Proofs.YtlmanbjkkjfjgaaGreat.Sym
open Go.Proofs.Tryz
open Go.RowKit
variable {z:Nat->Nat->Nat->Int}{ln:Nat->Nat->Nat}{K c i k m n p x:Nat}{A B G Q a b d f g:Nat->Int}{D y:Int}{X Y:List Int}
def wY (z:Nat->Nat->Nat->Int) (ln:Nat->Nat->Nat) (n K:Nat):List WP:=[Rw 1 (aK (bt z ln n K)) n,Nz n,Nz n]
def SC (z:Nat->Nat->Nat->Int) (ln:Nat->Nat->Nat) (n K:Nat) (j:Nat):List WP:=[Nz j,Ptr 1 (aK (bt z ln n K) j),Rw 1 (aK (cF (z j) (ln j) K)) n,Nz n,Nz n,Nz (j+1)]
def SD:bp:=⟨[0,2,5,6,7,8,9],[(.slot 10,.i)],[(.one 0,3)],[.closed (.one (Ai 0))],3,[]⟩
def DN:List Step:=[bQ [3,2] oT (am .lss),bQ [0,3] [oP 4] (adK 109),bQ [4] [oS 5] (aQ 110),bQ [5] [oN 6] (aC 110),bQ [0] [oN 7] (aC 109),bQ [6,7] oF (am .neq),bQ [3,.lit (Ai 1)] [oN 8] (am .add)]
def SE:List Step:=[bQ [3,2] oF (am .lss)]
def SF:List Step:=[bQ [0] [oN 1] (aC 109),bQ [1,.lit (Ai 4)] oF (am .gtr),bQ [0] [oN 2] (aC 109),.loop SD [(DN,[.frm 8])] SE]
def SG:List Out:=[oS 0]
theorem dsq  (hn:n<=4):aj (ph (wY z ln n K)) prog ⟨114,[0],oT,false⟩:=adL SG oT SF func114 (by kernel_rfl) (lB (aM (F:=(aK (bt z ln n K))) underlying109 ad rfl) (lB (lu ad) (lB (aM (F:=(aK (bt z ln n K))) underlying109 ad rfl) (bN (counted n (λj=>ph (wY z ln n K ++ SC z ln n K j)) (λ_=>0) (λ_ p hp=>bO (show p<(wY z ln n K).length from hp)) ⟨λ_=>rfl,trivial⟩ (λj _=>by
   skip
   exact ⟨(DN,[.frm 8]),rfl,⟨ad,trivial⟩,(lB (bK ad ad) (lB (bw (i:=j) (F:=(aK (bt z ln n K))) underlying109 ad ad rfl) (lB (iH (G:=Rw 1 (aK (cF (z j) (ln j) K)) n) ad (λ_ _ h=>fD h) rfl) (lB (aM (F:=(aK (cF (z j) (ln j) K))) underlying110 ad rfl) (lB (aM (F:=(aK (bt z ln n K))) underlying109 ad rfl) (lB (eJ (op:=.neq) ad ad (bz (decide_eq_false (λh=>h (by omega))) (by simp))) (lB (ch ad rfl) au)))))))⟩) (lB (tlF ad ad) au)
   poN) au))))
  (aP [.fact 0 (.one (.s))] ⟨Rw.Is 1 (aK (bt z ln n K)) n,trivial⟩) aV
def wZ (z:Nat->Nat->Nat->Int) (ln:Nat->Nat->Nat) (n K i k:Nat):List WP:=[Nz i,Nz k,Rw 1 (aK (bt z ln n K)) n,Rw 1 (aK (bt z ln n K)) i,Nz (i+1),Rw 1 (aK (λι=>(bt z ln n K) ((i+1)+ι))) (n-(i+1)),Rw 1 (aK (two (bt z ln n K) (λι=>(bt z ln n K) ((i+1)+ι)) i (n-(i+1)))) 2,bh 110 (λι=>bt z ln n K (aL i ι)) (n-1),fb (n-1),Nz (n-1),bh 110 (bt (λr c=>z (aL i r) (aL k c)) (λr c=>ln (aL i r) (aL k c)) (n-1) K) (n-1)]
def SH (z:Nat->Nat->Nat->Int) (ln:Nat->Nat->Nat) (n K i k:Nat) (r:Nat):List WP:=[Nz r,bh 110 (FB (λι=>bt z ln n K (aL i ι)) (bt (λr c=>z (aL i r) (aL k c)) (λr c=>ln (aL i r) (aL k c)) (n-1) K) r) (n-1),λ_ _=>True,At 1,gp ((FB (λι=>bt z ln n K (aL i ι)) (bt (λr c=>z (aL i r) (aL k c)) (λr c=>ln (aL i r) (aL k c)) (n-1) K) r) r),vQ ((FB (λι=>bt z ln n K (aL i ι)) (bt (λr c=>z (aL i r) (aL k c)) (λr c=>ln (aL i r) (aL k c)) (n-1) K) r) r),vR ((FB (λι=>bt z ln n K (aL i ι)) (bt (λr c=>z (aL i r) (aL k c)) (λr c=>ln (aL i r) (aL k c)) (n-1) K) r) r),Rw 1 (aK (cF (z (aL i r)) (ln (aL i r)) K)) n,Rw 1 (aK (cF (z (aL i r)) (ln (aL i r)) K)) k,Nz (k+1),Rw 1 (aK (λι=>(cF (z (aL i r)) (ln (aL i r)) K) ((k+1)+ι))) (n-(k+1)),Rw 1 (aK (two (cF (z (aL i r)) (ln (aL i r)) K) (λι=>(cF (z (aL i r)) (ln (aL i r)) K) ((k+1)+ι)) k (n-(k+1)))) 2,Rw 1 (aK (λc=>cF (z (aL i r)) (ln (aL i r)) K (aL k c))) (n-1),At 1,gp ((FB (λι=>bt z ln n K (aL i ι)) (bt (λr c=>z (aL i r) (aL k c)) (λr c=>ln (aL i r) (aL k c)) (n-1) K) r) r),bh 110 (FB (λι=>bt z ln n K (aL i ι)) (bt (λr c=>z (aL i r) (aL k c)) (λr c=>ln (aL i r) (aL k c)) (n-1) K) (r+1)) (n-1),Nz (r+1)]
def DO:bp:=⟨[0,1,2,6,10,11,12,13,14,15,16,17,18,20],[(.slot 21,.i),(.two 7 19,.s)],[(.one 0,11),(.one 1,.cM [1] 12),(.one 1,.lo 1)],[.closed (.one (Ai 0)),.frm 7,.frm 0],11,[(12,10)]⟩
def DQ:List Step:=[bQ [11,9] oT (am .lss),.base ⟨0,[12,11],[oP 15],.joint [1] 14 (adK 109)⟩,.base ⟨0,[15],[⟨.one (.s),[]⟩],.joint [1] 16 (aQ 110)⟩,.derive (.agg [.s 15 1,.i 15 0,.p 18 0,.s 19 0]) (.agg [.s,.i,.p,.s]) [(0,3,14),(2,2,16)] 17,.narrow 1 (.s 15 1) (.i 15 0) (.p 18 0) (.s 19 0) 17 18,bQ [18,1] [oS 19] (eL 110),bQ [1,.lit (Ai 1)] [oN 20] (am .add),bQ [18,20] [oS 21] (pZ 110),.base ⟨0,[.any,19,21],[oS 22],.fresh [] (dl 109 2)⟩,
   cB 165 [22] [oS 23],.base ⟨0,[12,11],[oP 25],.joint [1] 24 (adK 109)⟩,.base ⟨0,[12,11,.any,23],[oS 26],.ot [] 1 0 24 (fE 110 (.tmp 26) (.tmp 27))⟩,bQ [11,.lit (Ai 1)] [oN 27] (am .add)]
def SI:List Step:=[bQ [11,9] oF (am .lss)]
def SJ:List Step:=[bQ [2,0] [oS 3] (eL 109),bQ [0,.lit (Ai 1)] [oN 4] (am .add),bQ [2,4] [oS 5] (pZ 109),.base ⟨0,[.any,3,5],[oS 6],.fresh [] (dl 198 2)⟩,.base ⟨164,[6],[oS 7],.eM [] 1⟩,.freed (.one (.s 10 0)) 7 8,bQ [8] [oN 9] (aC 109),.loop DO [(DQ,[.frm 27,.frm 26,.frm 0])] SI]
def SK:List Out:=[oN 0,oN 1,oS 2]
theorem SM  (hn:n<=1000) (hk:k<n) (hi:i<n:=by omega):eT (ph (wZ z ln n K i k)) prog ⟨144,[0,1,2],[oS 10],false⟩:=iJ SK [oS 10] SJ func144 (by kernel_rfl) (lB (oM (m:=i) (n:=n) (F:=(aK (bt z ln n K))) underlying109 ad ad (by omega) rfl) (lB (ch ad rfl) (lB (AS (m:=(i+1)) (n:=n) (F:=(aK (bt z ln n K))) underlying109 ad ad rfl) (lB (AT (zc:=.one .nl) (A:=(bt z ln n K)) (B:=(λι=>(bt z ln n K) ((i+1)+ι))) underlying198 ad ad rfl) (lB (Nl (m:=(n-1)) (A:=(bt z ln n K)) (B:=(λι=>(bt z ln n K) ((i+1)+ι))) (a:=i) (b:=(n-(i+1))) (C:=(λι=>bt z ln n K (aL i ι))) ad rfl (jP z ln n K) (λι=>(jP z ln n K) ((i+1)+ι)) (il z ln n K) (λι=>(il z ln n K) ((i+1)+ι)) (λι w v hι h=>by show bt z ln n K (aL i ι) w v;rw [aL,if_pos hι];exact h) (λι w v _ h=>by show bt z ln n K (aL i (i+ι)) w v;rw [aL,if_neg (by omega),show i+ι+1=i+1+ι by omega];exact h)) (gu (qa (e:=110) (n:=(n-1)) (F:=(λι=>bt z ln n K (aL i ι))) ad rfl) (lB (eH (n:=(n-1)) underlying109 ad rfl) (bN (counted (n-1) (λr=>ph (wZ z ln n K i k ++ SH z ln n K i k r)) (λ_=>0) (λ_ p hp=>bO (show p<(wZ z ln n K i k).length from hp)) ⟨λ_=>rfl,λ_ _ h=>Bb h,bI,trivial⟩ (λr _=>by
   skip
   exact ⟨(DQ,[.frm 27,.frm 26,.frm 0]),rfl,⟨ad,ad,bI,trivial⟩,(lB (bK ad ad) (lB (ji (i:=r) (n:=(n-1)) (F:=(FB (λι=>bt z ln n K (aL i ι)) (bt (λr c=>z (aL i r) (aL k c)) (λr c=>ln (aL i r) (aL k c)) (n-1) K) r)) underlying109 ad ad rfl rfl) (lB (MJ (G:=((FB (λι=>bt z ln n K (aL i ι)) (bt (λr c=>z (aL i r) (aL k c)) (λr c=>ln (aL i r) (aL k c)) (n-1) K) r) r)) (λ_ _ h=>jP _ _ _ _ _ _ _ (AX (A:=λι=>bt z ln n K (aL i ι)) (r:=r) h)) ad rfl) (bk (MK rfl rfl rfl) (SN (ML (G:=((FB (λι=>bt z ln n K (aL i ι)) (bt (λr c=>z (aL i r) (aL k c)) (λr c=>ln (aL i r) (aL k c)) (n-1) K) r) r)) (adO (λι=>il z ln n K (aL i ι)) (il _ _ _ _) r r) rfl (λ_ _ h=>AX (A:=(λι=>bt z ln n K (aL i ι))) (r:=r) h)) (lB (oM (m:=k) (n:=n) (F:=(aK (cF (z (aL i r)) (ln (aL i r)) K))) underlying110 ad ad (by omega) rfl) (lB (ch ad rfl) (lB (AS (m:=(k+1)) (n:=n) (F:=(aK (cF (z (aL i r)) (ln (aL i r)) K))) underlying110 ad ad rfl) (lB (AT (zc:=.one .nl) (A:=(cF (z (aL i r)) (ln (aL i r)) K)) (B:=(λι=>(cF (z (aL i r)) (ln (aL i r)) K) ((k+1)+ι))) underlying109 ad ad rfl) (lB (NJ (m:=(n-1)) (A:=(cF (z (aL i r)) (ln (aL i r)) K)) (B:=(λι=>(cF (z (aL i r)) (ln (aL i r)) K) ((k+1)+ι))) (a:=k) (b:=(n-(k+1))) (C:=(λc=>cF (z (aL i r)) (ln (aL i r)) K (aL k c))) ad rfl (slI (z (aL i r)) (ln (aL i r)) K) (λι=>(slI (z (aL i r)) (ln (aL i r)) K) ((k+1)+ι)) (sR (z (aL i r)) (ln (aL i r)) K) (λι=>(sR (z (aL i r)) (ln (aL i r)) K) ((k+1)+ι)) (λι w v hι h=>by show cF (z (aL i r)) (ln (aL i r)) K (aL k ι) w v;rw [aL.eq_1 k ι,if_pos hι];exact h) (λι w v _ h=>by show cF (z (aL i r)) (ln (aL i r)) K (aL k (k+ι)) w v;rw [aL.eq_1 k (k+ι),if_neg (by omega),show k+ι+1=k+1+ι by omega];exact h)) (lB (ji (i:=r) (n:=(n-1)) (F:=(FB (λι=>bt z ln n K (aL i ι)) (bt (λr c=>z (aL i r) (aL k c)) (λr c=>ln (aL i r) (aL k c)) (n-1) K) r)) underlying109 ad ad rfl rfl) (lB (AR (i:=r) (n:=(n-1)) (F:=(FB (λι=>bt z ln n K (aL i ι)) (bt (λr c=>z (aL i r) (aL k c)) (λr c=>ln (aL i r) (aL k c)) (n-1) K) r)) (F':=(FB (λι=>bt z ln n K (aL i ι)) (bt (λr c=>z (aL i r) (aL k c)) (λr c=>ln (aL i r) (aL k c)) (n-1) K) (r+1))) (G:=Rw 1 (aK (λc=>cF (z (aL i r)) (ln (aL i r)) K (aL k c))) (n-1)) (.tmp 26) (.tmp 27) (λ_ _ h=>fD h) (adO (λι=>il z ln n K (aL i ι)) (il _ _ _ _) r) ad ad ad rfl (λ_ _ _ hk h=>Ba hk h) (λ_ _ h=>AY h) rfl) (lB (ch ad rfl) au)))))))))))))⟩) (lB (tlF ad ad) au)
   (poC (λ_ _ h=>(λh=>Bc h) h) poN)) au))))))))
  (aP [.fact 0 (.one (.i)),.fact 1 (.one (.i)),.fact 2 (.one (.s))] ⟨λ_ _ h=>h▸cY _,λ_ _ h=>h▸cY _,Rw.Is 1 (aK (bt z ln n K)) n,trivial⟩) (λ_ _ _ h=>h)
section
variable {Φ:PH}{q r y j:Nat}{J:List Nat}
theorem DR (hp:Im Φ p (Rw 1 (aK (bt z ln n K)) n)) (hr:Im Φ r (Ni (k:Int))) (hx:Φ x=Rw 1 (aK (bt (λr c=>z (aL 0 r) (aL k c)) (λr c=>ln (aL 0 r) (aL k c)) m K)) m) (hm:n-1=m) (hn:n<=1000:=by omega) (hk:k<n:=by omega):aj Φ prog ⟨144,[.lit (Ai 0),.fact r,.fact p],[oS x],false⟩:=by
 subst hm;exact aU (eT.call (md:=false) (SM (z:=z) (ln:=ln) (K:=K) (i:=0) hn hk)) ⟨λ_=>rfl,hr,hp,trivial⟩ ⟨⟨rfl,⟨rfl,rfl,λ_ _ h=>by
  rw [hx];exact bh.rw (e:=110) h⟩,trivial⟩,trivial⟩
theorem SO (hp:Im Φ p (Rw 1 (aK (bt z ln n K)) n)) (hn:n<=4:=by omega):aj Φ prog ⟨114,[.fact p],oT,false⟩:=aU (dsq (z:=z) (ln:=ln) (K:=K) hn) ⟨hp,trivial⟩ ⟨⟨rfl,trivial⟩,trivial⟩
end
def dM (z:Nat->Nat->Nat->Int) (ln:Nat->Nat->Nat) (i k:Nat):List Int:=aw (mk (ln i k) (z i k))
def SP (z:Nat->Nat->Nat->Int) (ln:Nat->Nat->Nat) (K:Nat):List WP:=[Rw 1 (aK (bt z ln 0 K)) 0,Nz 0,Ni (1),λw v=>Rw 1 (λi _ v=>v = .agg #[.int .i64 (ae [1] i)]) 1 w v,Rw 2 (Nf (ae ([1])) 2) 1]
def SQ:List Step:=[bQ [0] [oN 1] (aC 109),bQ [1,.lit (Ai 0)] oT (am .eql),.derive (.one (Ai 1)) (.one (.lit (Ai 1))) [] 2,.base ⟨0,[.any,2],[oS 3],.fresh [] (dl 22 1)⟩,
   cB 38 [3] [oS 4]]
def SR:List Out:=[oS 0]
theorem SS   : aj (ph (SP z ln K)) prog ⟨115,[0],[oS 4],false⟩:=adL SR [oS 4] SQ func115 (by kernel_rfl) (lB (aM (F:=(aK (bt z ln 0 K))) underlying109 ad rfl) (lB (cn (op:=.eql) ad (bz (rfl) (by simp))) (bk (dC rfl) (lB (fM (ps:=[2]) (sz:=1) (n:=1) (F:=(λi _ v=>v = .agg #[.int .i64 (ae [1] i)])) (zc:=.one (Ai 0)) underlying22 rfl (ow ad) rfl) (lB (wB (z:=ae [1]) (n:=1) (zs:=[1]) ad rfl (qh (by decide)) (by decide)) au)))))
  (aP [.fact 0 (.one (.s))] ⟨Rw.Is 1 (aK (bt z ln 0 K)) 0,trivial⟩) aV
def xa (z:Nat->Nat->Nat->Int) (ln:Nat->Nat->Nat) (n K _k:Nat):List WP:=[Rw 1 (aK (bt z ln (n+1) K)) (n+1),Nz (n+1),Ptr 1 (aK (bt z ln (n+1) K) 0),Rw 1 (aK (cF (z 0) (ln 0) K)) (n+1),Nz (n+1),Rw 2 (Nf (ae (df (dM z ln 0) (λk=>adJ n (mnr (dM z ln) 0 k)) (n+1))) 2000) (df (dM z ln 0) (λk=>adJ n (mnr (dM z ln) 0 k)) (n+1)).length]
def ST (z:Nat->Nat->Nat->Int) (ln:Nat->Nat->Nat) (n K _c _k:Nat) (j:Nat):List WP:=[Nz j,Rw 2 (Nf (ae (df (dM z ln 0) (λk=>adJ n (mnr (dM z ln) 0 k)) j)) 2000) (df (dM z ln 0) (λk=>adJ n (mnr (dM z ln) 0 k)) j).length,Ptr 1 (aK (cF (z 0) (ln 0) K) j),Rw 2 (If (z 0 j) K) (ln 0 j),Rw 1 (aK (bt (λr c=>z (aL 0 r) (aL j c)) (λr c=>ln (aL 0 r) (aL j c)) n K)) n,Rw 2 (Nf (ae (adJ n (mnr (dM z ln) 0 j))) 2000) ((adJ n (mnr (dM z ln) 0 j)).length),Rw 2 (Nf (ae (adI (dM z ln 0 j) (adJ n (mnr (dM z ln) 0 j)))) 2000) ((adI (dM z ln 0 j) (adJ n (mnr (dM z ln) 0 j))).length),Ni (Int.tmod ((j:Nat):Int) 2),Rw 2 (Nf (ae (cj (df (dM z ln 0) (λk=>adJ n (mnr (dM z ln) 0 k)) j) (cN (adI (dM z ln 0 j) (adJ n (mnr (dM z ln) 0 j)))))) 2000) ((cj (df (dM z ln 0) (λk=>adJ n (mnr (dM z ln) 0 k)) j) (cN (adI (dM z ln 0 j) (adJ n (mnr (dM z ln) 0 j))))).length),Nz (j+1),Ptr 1 (aK (cF (z 0) (ln 0) K) j),Rw 2 (If (z 0 j) K) (ln 0 j),Rw 1 (aK (bt (λr c=>z (aL 0 r) (aL j c)) (λr c=>ln (aL 0 r) (aL j c)) n K)) n,Rw 2 (Nf (ae (adJ n (mnr (dM z ln) 0 j))) 2000) ((adJ n (mnr (dM z ln) 0 j)).length),Rw 2 (Nf (ae (adI (dM z ln 0 j) (adJ n (mnr (dM z ln) 0 j)))) 2000) ((adI (dM z ln 0 j) (adJ n (mnr (dM z ln) 0 j))).length),Ni (Int.tmod ((j:Nat):Int) 2),Rw 2 (Nf (ae (cj (df (dM z ln 0) (λk=>adJ n (mnr (dM z ln) 0 k)) j) (adI (dM z ln 0 j) (adJ n (mnr (dM z ln) 0 j))))) 2000) ((cj (df (dM z ln 0) (λk=>adJ n (mnr (dM z ln) 0 k)) j) (adI (dM z ln 0 j) (adJ n (mnr (dM z ln) 0 j)))).length),Nz (j+1)]
def DS:bp:=⟨[0,2,7,8,9,12,13,14,15],[(.slot 16,.i),(.slot 3,.s)],[(.one 0,6),(.one 1,7)],[.closed (.one (Ai 0)),.closed (.one (.nl))],6,[(7,5)]⟩
def DT:List Step:=[bQ [6,4] oT (am .lss),bQ [3,6] [oP 8] (adK 110),bQ [8] [oS 9] (aQ 25),
   cB 144 [.lit (Ai 0),6,0] [oS 10],
   cB 115 [10] [oS 11],
   cB 119 [9,11] [oS 12],bQ [6,.lit (Ai 2)] [oN 13] (tc),bQ [13,.lit (Ai 0)] oF (am .eql),
   cB 47 [7,12] [oS 14],bQ [6,.lit (Ai 1)] [oN 15] (am .add)]
def DU:List Step:=[bQ [6,4] oT (am .lss),bQ [3,6] [oP 16] (adK 110),bQ [16] [oS 17] (aQ 25),
   cB 144 [.lit (Ai 0),6,0] [oS 18],
   cB 115 [18] [oS 19],
   cB 119 [17,19] [oS 20],bQ [6,.lit (Ai 2)] [oN 21] (tc),bQ [21,.lit (Ai 0)] oT (am .eql),
   cB 118 [7,20] [oS 22],bQ [6,.lit (Ai 1)] [oN 23] (am .add)]
def SU:List Step:=[bQ [6,4] oF (am .lss)]
def SW:List Step:=[bQ [0] [oN 1] (aC 109),bQ [1,.lit (Ai 0)] oF (am .eql),bQ [0,.lit (Ai 0)] [oP 2] (adK 109),bQ [2] [oS 3] (aQ 110),bQ [3] [oN 4] (aC 110),.loop DS [(DT,[.frm 15,.frm 14]),(DU,[.frm 23,.frm 22])] SU]
def SX:List Out:=[oS 0]
theorem SY  (ih:∀{Φ:PH}{p x:Nat} (z':Nat->Nat->Nat->Int) (nd:Nat->Nat->Nat),(∀w v,Φ p w v->Rw 1 (aK (bt z' nd n K)) n w v)->(Φ x=Rw 2 (Nf (ae (adJ n (dM z' nd))) 2000) (adJ n (dM z' nd)).length)->(∀i j,nd i j<=1000)->(∀i j,i<n->j<n->EOk c k (dM z' nd i j))->aj Φ prog ⟨115,[.fact p],[oS x],false⟩) (hK:K<=2000) (hc:c<=100) (_:k<=100) (hln:∀i j,ln i j<=1000) (hM:∀i j,i<n+1->j<n+1->EOk c k (dM z ln i j)) (hbd:bD c k n+k+c+(n+1)+1<=2000) (hn:n<=3:=by omega):aj (ph (xa z ln n K k)) prog ⟨115,[0],[oS 5],false⟩:=by
 have hm':∀j,j<n+1->∀i l,i<n->l<n->EOk c k (mnr (dM z ln) 0 j i l):=λj hj i l _ _=>hM _ _ (by unfold aL;split <;> omega) (by unfold aL;split <;> omega);have hd:∀j,j<n+1->EOk (n*c+1) (bD c k n) (adJ n (mnr (dM z ln) 0 j)):=λj hj=>sV n _ (hm' j hj);have hnc:n*c<=3*100:=Nat.mul_le_mul hn hc;have hX:∀j,j<n+1->EOk (c+(n*c+1)) (k+bD c k n+c) (adI (dM z ln 0 j) (adJ n (mnr (dM z ln) 0 j))):=λj hj=>(hM 0 j (by omega) hj).mul (hd j hj);have hs:∀j,j<=n+1->EOk (c+(n*c+1)) (k+bD c k n+c+j) (df (dM z ln 0) (λk=>adJ n (mnr (dM z ln) 0 k)) j):=wV (λj hj=>hM 0 j (by omega) hj) hd;exact adL SX [oS 5] SW func115 (by kernel_rfl) (lB (aM (F:=(aK (bt z ln (n+1) K))) underlying109 ad rfl) (lB (cn (op:=.eql) ad (bz (decide_eq_false (p:=(((n+1:Nat):Int)=(0:Int))) (by omega)) (by simp))) (lB (eg 0 (sz:=1) (n:=(n+1)) (F:=(aK (bt z ln (n+1) K))) underlying109 (λ_ _ h=>Rw.arr h) rfl rfl) (lB (iH (G:=Rw 1 (aK (cF (z 0) (ln 0) K)) (n+1)) ad (λ_ _ h=>fD h) rfl) (lB (aM (F:=(aK (cF (z 0) (ln 0) K))) underlying110 ad rfl) (bN (counted (n+1) (λj=>ph (xa z ln n K k ++ ST z ln n K c k j)) (λj=>if j % 2=1 then 0 else 1) (λ_ p hp=>bO (show p<(xa z ln n K k).length from hp)) ⟨λ_=>rfl,λw=>Rw.nil 2 (Nf (ae (df (dM z ln 0) (λk=>adJ n (mnr (dM z ln) 0 k)) 0)) 2000) w,trivial⟩ (λj hj=>by
   skip
   by_cases hcj:j % 2=1
   ·skip
    exact ⟨(DT,[.frm 15,.frm 14]),by rw [if_pos hcj];rfl,⟨ad,λw v h=>show Rw 2 (λι w v=>ak w v ((ae (df (dM z ln 0) (λk=>adJ n (mnr (dM z ln) 0 k)) (j+1))) ι) 2000) (df (dM z ln 0) (λk=>adJ n (mnr (dM z ln) 0 k)) (j+1)).length w v by rw [df,kG,if_pos hcj];exact h,trivial⟩,(lB (bK ad ad) (lB (bw (i:=j) (F:=(aK (cF (z 0) (ln 0) K))) underlying110 ad ad rfl) (lB (iH (G:=Rw 2 (If (z 0 j) K) (ln 0 j)) ad (λ_ _ h=>fD h) rfl) (lB (DR (z:=z) (ln:=ln) (n:=(n+1)) (k:=j) ad ad rfl rfl) (lB (ih (λr c=>z (aL 0 r) (aL j c)) (λr c=>ln (aL 0 r) (aL j c)) ad rfl (λ_ _=>hln _ _) (hm' j hj)) (lB (ta (c:=1000) (A:=(dM z ln 0 j)) (B:=(adJ n (mnr (dM z ln) 0 j))) (z:=(z 0 j)) (n:=(ln 0 j)) (y:=(ae (adJ n (mnr (dM z ln) 0 j)))) (m:=(adJ n (mnr (dM z ln) 0 j)).length) (k:=K) (l:=2000) (K:=2000) (Rw.To 2 (If (z 0 j) K) (ln 0 j) (λ_ _ _ _ h=>h)) (Rw.To 2 (Nf (ae (adJ n (mnr (dM z ln) 0 j))) 2000) ((adJ n (mnr (dM z ln) 0 j)).length) (λ_ _ _ _ h=>ak.i h)) rfl (eU (hd j hj).nrm) rfl (hln _ _) (by have:=(hd j hj).len;omega) (λi=>((hX j hj).bd i).more (by omega))) (lB (DV ad (by decide) rfl) (lB (cn (op:=.eql) ad (bz (decide_eq_false (by have:=Int.tmod_eq_emod_of_nonneg (a:=(j:Int)) (b:=2) (by omega);omega)) (by simp))) (lB (wX (A:=(df (dM z ln 0) (λk=>adJ n (mnr (dM z ln) 0 k)) j)) (B:=(adI (dM z ln 0 j) (adJ n (mnr (dM z ln) 0 j)))) (z:=(ae (df (dM z ln 0) (λk=>adJ n (mnr (dM z ln) 0 k)) j))) (n:=(df (dM z ln 0) (λk=>adJ n (mnr (dM z ln) 0 k)) j).length) (y:=(ae (adI (dM z ln 0 j) (adJ n (mnr (dM z ln) 0 j))))) (m:=(adI (dM z ln 0 j) (adJ n (mnr (dM z ln) 0 j))).length) (k:=2000) (l:=2000) (K:=2000) (Rw.To 2 (λι w v=>ak w v ((ae (df (dM z ln 0) (λk=>adJ n (mnr (dM z ln) 0 k)) j)) ι) 2000) ((df (dM z ln 0) (λk=>adJ n (mnr (dM z ln) 0 k)) j).length) (λ_ _ _ _ h=>ak.i h)) (Rw.To 2 (λι w v=>ak w v ((ae (adI (dM z ln 0 j) (adJ n (mnr (dM z ln) 0 j)))) ι) 2000) ((adI (dM z ln 0 j) (adJ n (mnr (dM z ln) 0 j))).length) (λ_ _ _ _ h=>ak.i h)) (eU (hs j (by omega)).nrm) (eU (hX j hj).nrm) rfl (by have:=(hs j (by omega)).len;omega) (by have:=(hX j hj).len;omega) (λi=>by have:=((hs (j+1) (by omega)).bd i).more (show _<=2000 by omega);rw [df,kG,if_pos hcj] at this;exact this)) (lB (ch ad rfl) au))))))))))⟩
   ·skip
    exact ⟨(DU,[.frm 23,.frm 22]),by rw [if_neg hcj];rfl,⟨ad,λw v h=>show Rw 2 (λι w v=>ak w v ((ae (df (dM z ln 0) (λk=>adJ n (mnr (dM z ln) 0 k)) (j+1))) ι) 2000) (df (dM z ln 0) (λk=>adJ n (mnr (dM z ln) 0 k)) (j+1)).length w v by rw [df,kG,if_neg hcj];exact h,trivial⟩,(lB (bK ad ad) (lB (bw (i:=j) (F:=(aK (cF (z 0) (ln 0) K))) underlying110 ad ad rfl) (lB (iH (G:=Rw 2 (If (z 0 j) K) (ln 0 j)) ad (λ_ _ h=>fD h) rfl) (lB (DR (z:=z) (ln:=ln) (n:=(n+1)) (k:=j) ad ad rfl rfl) (lB (ih (λr c=>z (aL 0 r) (aL j c)) (λr c=>ln (aL 0 r) (aL j c)) ad rfl (λ_ _=>hln _ _) (hm' j hj)) (lB (ta (c:=1000) (A:=(dM z ln 0 j)) (B:=(adJ n (mnr (dM z ln) 0 j))) (z:=(z 0 j)) (n:=(ln 0 j)) (y:=(ae (adJ n (mnr (dM z ln) 0 j)))) (m:=(adJ n (mnr (dM z ln) 0 j)).length) (k:=K) (l:=2000) (K:=2000) (Rw.To 2 (If (z 0 j) K) (ln 0 j) (λ_ _ _ _ h=>h)) (Rw.To 2 (Nf (ae (adJ n (mnr (dM z ln) 0 j))) 2000) ((adJ n (mnr (dM z ln) 0 j)).length) (λ_ _ _ _ h=>ak.i h)) rfl (eU (hd j hj).nrm) rfl (hln _ _) (by have:=(hd j hj).len;omega) (λi=>((hX j hj).bd i).more (by omega))) (lB (DV ad (by decide) rfl) (lB (cn (op:=.eql) ad (bz (decide_eq_true (by have:=Int.tmod_eq_emod_of_nonneg (a:=(j:Int)) (b:=2) (by omega);omega)) (by simp))) (lB (DM (A:=(df (dM z ln 0) (λk=>adJ n (mnr (dM z ln) 0 k)) j)) (B:=(adI (dM z ln 0 j) (adJ n (mnr (dM z ln) 0 j)))) (z:=(ae (df (dM z ln 0) (λk=>adJ n (mnr (dM z ln) 0 k)) j))) (n:=(df (dM z ln 0) (λk=>adJ n (mnr (dM z ln) 0 k)) j).length) (y:=(ae (adI (dM z ln 0 j) (adJ n (mnr (dM z ln) 0 j))))) (m:=(adI (dM z ln 0 j) (adJ n (mnr (dM z ln) 0 j))).length) (k:=2000) (l:=2000) (K:=2000) (Rw.To 2 (λι w v=>ak w v ((ae (df (dM z ln 0) (λk=>adJ n (mnr (dM z ln) 0 k)) j)) ι) 2000) ((df (dM z ln 0) (λk=>adJ n (mnr (dM z ln) 0 k)) j).length) (λ_ _ _ _ h=>ak.i h)) (Rw.To 2 (λι w v=>ak w v ((ae (adI (dM z ln 0 j) (adJ n (mnr (dM z ln) 0 j)))) ι) 2000) ((adI (dM z ln 0 j) (adJ n (mnr (dM z ln) 0 j))).length) (λ_ _ _ _ h=>ak.i h)) (eU (hs j (by omega)).nrm) (eU (hX j hj).nrm) rfl (by have:=(hs j (by omega)).len;omega) (by have:=(hX j hj).len;omega) (λi=>by have:=((hs (j+1) (by omega)).bd i).more (show _<=2000 by omega);rw [df,kG,if_neg hcj] at this;exact this)) (lB (ch ad rfl) au))))))))))⟩
) (lB (tlF ad ad) au)
   (poC (λ_ _ h=>(λh=>h) h) poN)) au))))))
  (aP [.fact 0 (.one (.s))] ⟨Rw.Is 1 (aK (bt z ln (n+1) K)) (n+1),trivial⟩) aV
theorem DW {K c k:Nat} (hK:K<=2000) (hc:c<=100) (hk:k<=100):∀n,n<=4->∀{Φ:PH}{p x:Nat} (z:Nat->Nat->Nat->Int) (ln:Nat->Nat->Nat),(∀w v,Φ p w v->Rw 1 (aK (bt z ln n K)) n w v)->(Φ x=Rw 2 (Nf (ae (adJ n (dM z ln))) 2000) (adJ n (dM z ln)).length)->(∀i j,ln i j<=1000)->(∀i j,i<n->j<n->EOk c k (dM z ln i j))->aj Φ prog ⟨115,[.fact p],[oS x],false⟩
 | 0,_,Φ,p,x,z,ln,hp,hx,_,_=>aU (SS (z:=z) (ln:=ln) (K:=K)) ⟨hp,trivial⟩ ⟨⟨rfl,⟨rfl,rfl,λw v h=>by
   rw [hx];exact Rw.to (sz:=2) (n:=1) (F:=Nf (ae [1]) 2) h λ_ _ _ _ h=>h.more (by omega)⟩,trivial⟩,trivial⟩
 | n+1,hn,Φ,p,x,z,ln,hp,hx,hln,hM=>aU (SY (z:=z) (ln:=ln) (n:=n) (K:=K) (c:=c) (k:=k) (λz' nd h1 h2 h3 h4=>DW hK hc hk n (by omega) z' nd h1 h2 h3 h4) hK hc hk hln hM (by have:=DF hc hk n (by omega);omega)) ⟨hp,trivial⟩ ⟨⟨rfl,⟨rfl,rfl,λ_ _ h=>hx▸h⟩,trivial⟩,trivial⟩
theorem SZ (_:Nat):ee (λ_ v=>v=Value.slice none 0 0):=λ_ _ w _ hX _ _ _=>hX w (Off.refl _ _)
def xb (z:Nat->Nat->Int) (ln:Nat->Nat) (m K:Nat):List WP:=[Rw 1 (aK (cF z ln K)) m,Nz m,λw v=>bh 25 (λ_ _ v=>v=Value.slice none 0 0) m w v,Nz m,bh 25 (cF (λj=>ae (aw (mk (ln j) (z j)))) (λj=>(aw (mk (ln j) (z j))).length) K) m]
def Ta (z:Nat->Nat->Int) (ln:Nat->Nat) (m K:Nat) (j:Nat):List WP:=[Nz j,λw v=>bh 25 (FB (λ_ _ v=>v=Value.slice none 0 0) (cF (λj=>ae (aw (mk (ln j) (z j)))) (λj=>(aw (mk (ln j) (z j))).length) K) j) m w v,λ_ _=>True,Ptr 1 (aK (cF z ln K) j),Rw 2 (If (z j) K) (ln j),Rw 2 (Nf (ae (aw (mk (ln j) (z j)))) K) ((aw (mk (ln j) (z j))).length),At 1,λw v=>gp ((FB (λ_ _ v=>v=Value.slice none 0 0) (cF (λj=>ae (aw (mk (ln j) (z j)))) (λj=>(aw (mk (ln j) (z j))).length) K) j) j) w v,λw v=>bh 25 (FB (λ_ _ v=>v=Value.slice none 0 0) (cF (λj=>ae (aw (mk (ln j) (z j)))) (λj=>(aw (mk (ln j) (z j))).length) K) (j+1)) m w v,Nz (j+1)]
def DX:bp:=⟨[0,2,6,7,8,9,10],[(.slot 11,.i),(.slot 3,.s)],[(.one 0,5),(.one 1,.cM [1] 6),(.one 1,.lo 1)],[.closed (.one (Ai 0)),.frm 2,.frm 0],5,[(6,4)]⟩
def DY:List Step:=[bQ [5,3] oT (am .lss),bQ [0,5] [oP 8] (adK 110),bQ [8] [oS 9] (aQ 25),
   cB 67 [9] [oS 10],.base ⟨0,[6,5],[oP 12],.joint [1] 11 (adK 110)⟩,.base ⟨0,[6,5,.any,10],[oS 13],.ot [] 1 0 11 (fE 25 (.tmp 16) (.tmp 17))⟩,bQ [5,.lit (Ai 1)] [oN 14] (am .add)]
def Tb:List Step:=[bQ [5,3] oF (am .lss)]
def Tc:List Step:=[bQ [0] [oN 1] (aC 110),.base ⟨0,[1,1],[oS 2],.loose [] 1 0 (ga 110)⟩,bQ [0] [oN 3] (aC 110),.loop DX [(DY,[.frm 14,.frm 13,.frm 0])] Tb]
def Te:List Out:=[oS 0]
theorem Tf {z:Nat->Nat->Int}{ln:Nat->Nat} (hm:m<=1000) (hK:K<=100000) (hln:∀j,ln j<=1000000):aj (ph (xb z ln m K)) prog ⟨73,[0],[oS 4],false⟩:=adL Te [oS 4] Tc func73 (by kernel_rfl) (lB (aM (F:=(aK (cF z ln K))) underlying110 ad rfl) (lB (MN (n:=m) underlying110 ad rfl) (lB (aM (F:=(aK (cF z ln K))) underlying110 ad rfl) (bN (counted m (λj=>ph (xb z ln m K ++ Ta z ln m K j)) (λ_=>0) (λ_ p hp=>bO (show p<(xb z ln m K).length from hp)) ⟨λ_=>rfl,λ_ _ h=>Bb h,bI,trivial⟩ (λj _=>by
   skip
   exact ⟨(DY,[.frm 14,.frm 13,.frm 0]),rfl,⟨ad,ad,bI,trivial⟩,(lB (bK ad ad) (lB (bw (i:=j) (F:=(aK (cF z ln K))) underlying110 ad ad rfl) (lB (iH (G:=Rw 2 (If (z j) K) (ln j)) ad (λ_ _ h=>fD h) rfl) (lB (wy (z:=(z j)) (n:=(ln j)) (k:=K) (L:=(aw (mk (ln j) (z j)))) (Rw.To 2 (If (z j) K) (ln j) (λ_ _ _ _ h=>h)) rfl (hn:=(hln _)) rfl) (lB (ji (i:=j) (n:=m) (F:=(FB (λ_ _ v=>v=Value.slice none 0 0) (cF (λj=>ae (aw (mk (ln j) (z j)))) (λj=>(aw (mk (ln j) (z j))).length) K) j)) underlying110 ad ad rfl rfl) (lB (AR (i:=j) (n:=m) (F:=(FB (λ_ _ v=>v=Value.slice none 0 0) (cF (λj=>ae (aw (mk (ln j) (z j)))) (λj=>(aw (mk (ln j) (z j))).length) K) j)) (F':=(FB (λ_ _ v=>v=Value.slice none 0 0) (cF (λj=>ae (aw (mk (ln j) (z j)))) (λj=>(aw (mk (ln j) (z j))).length) K) (j+1))) (G:=Rw 2 (Nf (ae (aw (mk (ln j) (z j)))) K) ((aw (mk (ln j) (z j))).length)) (.tmp 16) (.tmp 17) (λ_ _ h=>fD h) (adO SZ (sR _ _ _) j) ad ad ad rfl (λ_ _ _ hk h=>Ba hk h) (λ_ _ h=>AY (Rw.to (sz:=2) (n:=(aw (mk (ln j) (z j))).length) (F:=Nf (ae (aw (mk (ln j) (z j)))) K) h λ_ _ _ _ h=>ak.i h)) rfl) (lB (ch ad rfl) au)))))))⟩) (lB (tlF ad ad) au)
   (poC (λ_ _ h=>(λh=>Bc h) h) poN)) au))))
  (aP [.fact 0 (.one (.s))] ⟨Rw.Is 1 (aK (cF z ln K)) m,trivial⟩) aV
section
variable {Φ:PH}{z:Nat->Nat->Int}{ln:Nat->Nat}
theorem Tg (hp:Im Φ p (Rw 1 (aK (cF z ln K)) m)) (hx:Φ x=Rw 1 (aK (cF (λj=>ae (aw (mk (ln j) (z j)))) (λj=>(aw (mk (ln j) (z j))).length) K)) m) (hm:m<=1000) (hK:K<=100000) (hln:∀j,ln j<=1000000):aj Φ prog ⟨73,[.fact p],[oS x],false⟩:=
 aU (Tf (z:=z) (ln:=ln) hm hK hln) ⟨hp,trivial⟩ ⟨⟨rfl,⟨rfl,rfl,λ_ _ h=>by
  rw [hx];exact bh.rw (e:=25) h⟩,trivial⟩,trivial⟩
end
def Th (z:Nat->Nat->Nat->Int) (ln:Nat->Nat->Nat) (n K:Nat):List WP:=[Rw 1 (aK (bt z ln n K)) n,Rw 2 (Nf (ae (adJ n (dM z ln))) 2000) ((adJ n (dM z ln)).length)]
def Ti:List Step:=[cB 114 [0] oT,
   cB 115 [0] [oS 1]]
def Tj:List Out:=[oS 0]
theorem Tk  (hn:n<=4) (hK:K<=2000) (hc:c<=100) (hk:k<=100) (hln:∀i j,ln i j<=1000) (hM:∀i j,i<n->j<n->EOk c k (dM z ln i j)):aj (ph (Th z ln n K)) prog ⟨72,[0],[oS 1,oL (Ai 0)],true⟩:=adL Tj [oS 1,oL (Ai 0)] Ti func72 (by kernel_rfl) (lB (SO (z:=z) (ln:=ln) (K:=K) (n:=n) ad) (lB (DW hK hc hk n hn z ln ad rfl hln hM) au))
  (aP [.fact 0 (.one (.s))] ⟨Rw.Is 1 (aK (bt z ln n K)) n,trivial⟩) aV
section
variable {Φ:PH}{q r j:Nat}
theorem Tm (hp:Im Φ p (Rw 1 (aK (bt z ln n K)) n)) (hx:Φ x=Rw 2 (Nf (ae (adJ n (λi k=>aw (mk (ln i k) (z i k))))) 2000) (adJ n (λi k=>aw (mk (ln i k) (z i k)))).length) (hn:n<=4) (hK:K<=2000) (hc:c<=100) (hk:k<=100) (hM:∀i j,i<n->j<n->EOk c k (aw (mk (ln i j) (z i j)))) (hln:∀i j,ln i j<=1000):aj Φ prog ⟨72,[.fact p],[oS x,oL (Ai 0)],true⟩:=
 aU (Tk (z:=z) (ln:=ln) (c:=c) (k:=k) hn hK hc hk hln hM) ⟨hp,trivial⟩ ⟨⟨rfl,⟨rfl,rfl,λ_ _ h=>hx▸h⟩,trivial⟩,⟨rfl,trivial⟩,trivial⟩
end
theorem DZ {Φ:PH}{M:Nat->Nat->List Int} (hp:Im Φ p (Rw 1 (aK (bt z ln n K)) n)) (hx:Φ x=Rw 2 (Nf (ae (adJ n M)) 2000) (adJ n M).length) (hm:∀i j,aw (mk (ln i j) (z i j))=M i j) (hM:∀i j,i<n->j<n->EOk c k (M i j)) (hln:∀i j,ln i j<=1000) (hn:n<=4:=by omega) (hK:K<=2000:=by omega) (hc:c<=100:=by omega) (hk:k<=100:=by omega):aj Φ prog ⟨72,[.fact p],[oS x,oL (Ai 0)],true⟩:=by
 obtain rfl:(λi k=>aw (mk (ln i k) (z i k)))=M:=by funext i j;exact hm i j
 exact Tm hp hx hn hK hc hk hM hln
def Prm (p:Nat):Prop:=2<=p∧∀d,d∣p->d=1∨d=p
theorem Prm.cop {a:Nat} (h:Prm p) (ha:¬p∣a):Nat.Coprime p a:=by
 rcases h.2 _ (Nat.gcd_dvd_left p a) with e | e
 ·exact e
 ·exact absurd (e▸Nat.gcd_dvd_right p a) ha
theorem Prm.mul {a b:Nat} (h:Prm p) (hd:p∣a*b):p∣a∨p∣b:=by
 rcases Decidable.em (p∣a) with e | e
 ·exact .inl e
 ·exact .inr ((h.cop e).dvd_of_dvd_mul_left hd)
def bin:Nat->Nat->Nat
 | _,0=>1
 | 0,_+1=>0
 | n+1,k+1=>bin n k+bin n (k+1)
theorem te:∀{n k:Nat},n<k->bin n k=0
 | 0,k+1,_=>rfl
 | n+1,k+1,h=>by unfold bin;rw [te (by omega),te (by omega)]
theorem Ea:∀n,bin n n=1
 | 0=>rfl
 | n+1=>by unfold bin;rw [Ea n,te (by omega)]
theorem tf:∀n,bin n 0=1
 | 0=>rfl
 | _+1=>rfl
theorem tg:∀n k,(k+1)*bin (n+1) (k+1)=(n+1)*bin n k
 | 0,0=>rfl
 | 0,k+1=>by simp [bin]
 | n+1,0=>by have:=tg n 0;have e1:bin (n+2) 1=bin (n+1) 0+bin (n+1) 1:=rfl;rw [tf] at this e1 ⊢;rw [e1];simp only [Nat.zero_add,Nat.one_mul,Nat.mul_one] at this ⊢;omega
 | n+1,k+1=>by
  have h1:=tg n k;have h2:=tg n (k+1);have e1:bin (n+2) (k+2)=bin (n+1) (k+1)+bin (n+1) (k+2):=rfl;have e2:bin (n+1) (k+1)=bin n k+bin n (k+1):=rfl;rw [e1];generalize bin (n+1) (k+1)=A at *
  generalize bin (n+1) (k+2)=B at *
  have e3:(k+1+1)*(A+B)=A+(k+1)*A+(k+1+1)*B:=by rw [Nat.mul_add,Nat.add_mul (k+1) 1 A];omega
  rw [e3,h1,h2,Nat.add_assoc,<- Nat.mul_add,<- e2,Nat.add_mul (n+1) 1 A];omega
def eh (f:Nat->Nat):Nat->Nat
 | 0=>0
 | n+1=>eh f n+f n
theorem Eb (f g:Nat->Nat):∀n,eh (λi=>f i+g i) n=eh f n+eh g n
 | 0=>rfl
 | n+1=>by unfold eh;rw [Eb f g n];omega
theorem Ec (c:Nat) (f:Nat->Nat):∀n,eh (λi=>c*f i) n=c*eh f n
 | 0=>rfl
 | n+1=>by unfold eh;rw [Ec c f n,Nat.mul_add]
theorem th (f:Nat->Nat):∀n,eh f (n+1)=f 0+eh (λi=>f (i+1)) n
 | 0=>by simp [eh]
 | n+1=>by rw [eh,th f n,eh];omega
theorem Ed {f g:Nat->Nat}:∀{n:Nat},(∀i,i<n->f i=g i)->eh f n=eh g n
 | 0,_=>rfl
 | n+1,h=>by unfold eh;rw [Ed λi _=>h i (by omega),h n (by omega)]
theorem Ee {p:Nat}{f:Nat->Nat}:∀{n:Nat},(∀i,i<n->p∣f i)->p∣eh f n
 | 0,_=>Nat.dvd_zero p
 | n+1,h=>Nat.dvd_add (Ee λi _=>h i (by omega)) (h n (by omega))
theorem Ef (x:Nat):∀n,(x+1) ^ n=eh (λk=>bin n k*x ^ k) (n+1)
 | 0=>by simp [eh,bin]
 | n+1=>by
  rw [Nat.pow_succ,Ef x n,th (λk=>bin (n+1) k*x ^ k)];have e:eh (λi=>bin (n+1) (i+1)*x ^ (i+1)) (n+1)=x*eh (λk=>bin n k*x ^ k) (n+1)+eh (λi=>bin n (i+1)*x ^ (i+1)) (n+1):=by rw [<- Ec,<- Eb];refine Ed λi _=>?_;simp only [bin,Nat.pow_succ];grind
  rw [e];have h:eh (λk=>bin n k*x ^ k) (n+1)=1+eh (λi=>bin n (i+1)*x ^ (i+1)) (n+1):=by
   conv=>lhs;rw [th]
   rw [eh,te (k:=n+1) (by omega),tf];simp
  rw [tf];simp only [Nat.pow_zero,Nat.mul_one,Nat.mul_add];rw [Nat.mul_comm x];omega
theorem Prm.bin  (h:Prm p) (h1:0<k) (h2:k<p):p∣bin p k:=by
 obtain ⟨n,rfl⟩:∃n,p=n+1:=⟨p-1,by omega⟩;obtain ⟨j,rfl⟩:∃j,k=j+1:=⟨k-1,by omega⟩;have:=tg n j;rcases h.mul (a:=j+1) (b:=Sym.bin (n+1) (j+1)) ⟨_,this⟩ with e | e
 ·exact absurd (Nat.le_of_dvd (by omega) e) (by omega)
 ·exact e
theorem Prm.Eg {p:Nat} (h:Prm p):∀x:Nat,x ^ p % p=x % p
 | 0=>by rw [Nat.zero_pow (by have:=h.1;omega)]
 | x+1=>by obtain ⟨n,rfl⟩:∃n,p=n+2:=⟨p-2,by have:=h.1;omega⟩;rw [Ef,th,eh,Ea,tf,Nat.pow_zero,Nat.mul_one,Nat.one_mul];obtain ⟨c,hc⟩:n+2∣eh (λi=>Sym.bin (n+2) (i+1)*x ^ (i+1)) (n+1):=Ee λ_ _=>Nat.dvd_trans (h.bin (by omega) (by omega)) (Nat.dvd_mul_right _ _);rw [hc,show 1+((n+2)*c+x ^ (n+2))=(x ^ (n+2)+1)+(n+2)*c by omega,Nat.add_mul_mod_self_left,Nat.add_mod,h.Eg x,<- Nat.add_mod]
theorem Prm.inv  (h:Prm p) (hx:¬p∣x):x*(x ^ (p-2) % p) % p=1:=by
 obtain ⟨n,rfl⟩:∃n,p=n+2:=⟨p-2,by have:=h.1;omega⟩;have h1:=h.Eg x;have hx0:0<x:=Nat.pos_of_ne_zero λe=>hx (e▸Nat.dvd_zero _);have h3:0<x ^ (n+1):=Nat.pow_pos hx0;have h2:n+2∣x*(x ^ (n+1)-1):=by rw [Nat.mul_sub,Nat.mul_one,Nat.mul_comm x,<- Nat.pow_succ];exact Nat.dvd_of_mod_eq_zero (Nat.sub_mod_eq_zero_of_mod_eq h1)
 obtain ⟨c,hc⟩:=(h.mul h2).resolve_left hx;rw [Nat.add_sub_cancel,Nat.mul_mod,Nat.mod_mod,<- Nat.mul_mod,Nat.mul_comm x,<- Nat.pow_succ,show x ^ (n+1)=1+(n+2)*c by omega,Nat.add_mul_mod_self_left,Nat.mod_eq_of_lt (by omega)]
def bits (e:Nat):Nat:=if e=0 then 0 else e.log2+1
theorem Eh {f:Nat->Int}:∀{n:Nat},(∀i,i<n->f i=0)->sumTo f n=0
 | 0,_=>rfl
 | n+1,h=>by rw [sumTo,Eh λi _=>h i (by omega),h n (by omega)];rfl
theorem Tq  (hi:i<n) (h:∀x,x<n->x≠i->f x=0):sumTo f n=f i:=by obtain ⟨k,rfl⟩:∃k,n=i+1+k:=⟨n-(i+1),by omega⟩;rw [qC λx _ h2=>h x h2 (by omega),sumTo,Eh λx _=>h x (by omega) (by omega)];omega
theorem least  (h:∃i,f i≠0):∃i,f i≠0∧∀j,j<i->f j=0:=by
 obtain ⟨i,hi⟩:=h
 induction i using Nat.strongRecOn with
 | ind i ih=>
  by_cases hx:∃j,j<i∧f j≠0
  ·obtain ⟨j,h1,h2⟩:=hx;exact ih j h1 h2
  ·exact ⟨i,hi,λj hj=>Classical.byContradiction λh=>hx ⟨j,hj,h⟩⟩
theorem topmost {P:Nat->Prop} (h:∃i,P i) (hn:∀i,n<=i->¬P i):∃i,P i∧∀j,i<j->¬P j:=by
 induction n with
 | zero=>obtain ⟨i,hi⟩:=h;exact absurd hi (hn i (by omega))
 | succ n ih=>
  by_cases hx:P n
  ·exact ⟨n,hx,λj _=>hn j (by omega)⟩
  ·exact ih λi _=>by
    rcases Nat.lt_or_ge n i with h1 | h1
    ·exact hn i h1
    ·rw [show i=n by omega];exact hx
theorem Ei  (hf:∀j,i<j->f j=0) (hg:∀j,k<j->g j=0):conv f g (i+k)=f i*g k:=by
 rw [qD,Tq (i:=i) (by omega) λx hx hne=>?_,Nat.add_sub_cancel_left];rcases Nat.lt_or_ge i x with h1 | h1
 ·rw [hf x h1,Int.zero_mul]
 ·rw [hg _ (by omega),Int.mul_zero]
def Cg (p:Nat) (f g:Nat->Int):Prop:=∀i,(p:Int)∣f i-g i
theorem Cg.refl (p:Nat) (f:Nat->Int):Cg p f f:=λ_=>⟨0,by omega⟩
theorem Cg.symm  (h:Cg p f g):Cg p g f:=λi=>by obtain ⟨c,hc⟩:=h i;exact ⟨-c,by rw [Int.mul_neg];omega⟩
theorem Cg.trans {k:Nat->Int} (h:Cg p f g) (h':Cg p g k):Cg p f k:=λi=>by obtain ⟨c,hc⟩:=h i;obtain ⟨d,hd⟩:=h' i;exact ⟨c+d,by rw [Int.mul_add];omega⟩
theorem Cg.add {f' g':Nat->Int} (h:Cg p f g) (h':Cg p f' g'):Cg p (λi=>f i+f' i) (λi=>g i+g' i):=λi=>by obtain ⟨c,hc⟩:=h i;obtain ⟨d,hd⟩:=h' i;exact ⟨c+d,by rw [Int.mul_add];dsimp only;omega⟩
theorem Cg.mulL  (c:Int) (h:Cg p f g):Cg p (λi=>c*f i) (λi=>c*g i):=λi=>by obtain ⟨k,hk⟩:=h i;exact ⟨c*k,by rw [<- Int.mul_sub,hk,Int.mul_left_comm]⟩
theorem Cg.Ej  (k:Nat->Int) (h:Cg p f g):Cg p (conv f k) (conv g k):=λi=>by
 have e:∃q:Nat->Int,∀i,f i=g i+p*q i:=by refine ⟨λi=>(h i).choose,λi=>?_⟩;have:=(h i).choose_spec;dsimp only;omega
 obtain ⟨q,hq⟩:=e;obtain rfl:f=λi=>g i+p*q i:=funext hq;rw [kJ,io];exact ⟨conv q k i,by omega⟩
theorem Cg.Ek  (k:Nat->Int) (h:Cg p f g):Cg p (conv k f) (conv k g):=λi=>by rw [nf i k f,nf i k g];exact h.Ej k i
def Dvm (p:Nat) (d f:Nat->Int):Prop:=∃(q:Nat->Int) (n:Nat),(∀i,n<=i->q i=0)∧Cg p f (conv q d)
theorem Dvm.refl (p:Nat) (d:Nat->Int):Dvm p d d:=⟨λi=>if i=0 then 1 else 0,1,λ_ _=>if_neg (by omega),λ_=>by
 rw [qE,if_pos (by omega),Nat.sub_zero,Int.one_mul];exact ⟨0,by omega⟩⟩
theorem Dvm.cg  (h:Dvm p d f) (hc:Cg p g f):Dvm p d g:=by obtain ⟨q,n,h1,h2⟩:=h;exact ⟨q,n,h1,hc.trans h2⟩
theorem Dvm.zero (p:Nat) (d:Nat->Int) (h:∀i,f i=0):Dvm p d f:=⟨λ_=>0,0,λ_ _=>rfl,λ_=>by
 rw [lL λ_=>rfl,h];exact ⟨0,by omega⟩⟩
theorem Dvm.add  (h:Dvm p d f) (h':Dvm p d g):Dvm p d (λi=>f i+g i):=by obtain ⟨q,n,h1,h2⟩:=h;obtain ⟨q',n',h1',h2'⟩:=h';refine ⟨λi=>q i+q' i,n+n',λi hi=>by dsimp only;rw [h1 i (by omega),h1' i (by omega)];rfl,λi=>?_⟩;rw [kJ];exact h2.add h2' i
theorem Dvm.conv  (h:Dvm p d f){u:Nat->Int} (hu:∀i,k<=i->u i=0):Dvm p d (Sym.conv u f):=by obtain ⟨q,n,h1,h2⟩:=h;refine ⟨Sym.conv u q,k+n,λi hi=>sq hu h1,λi=>?_⟩;rw [oO];exact h2.Ek u i
theorem Dvm.mulL  (h:Dvm p d f) (c:Int):Dvm p d (λi=>c*f i):=by obtain ⟨q,n,h1,h2⟩:=h;refine ⟨λi=>c*q i,n,λi hi=>by dsimp only;rw [h1 i hi,Int.mul_zero],λi=>?_⟩;rw [io];exact h2.mulL c i
theorem Dvm.trans  (h:Dvm p d f) (h':Dvm p f g):Dvm p d g:=by obtain ⟨q,n,h1,h2⟩:=h';exact (h.conv h1).cg h2
theorem El {q:Nat->Int} (hq:∀i,n<=i->q i=0) (hne:∃i,¬(p:Int)∣q i) :
  ∃k,¬(p:Int)∣q k∧Cg p q (λi=>if i<=k then q i else 0):=by
 obtain ⟨k,h1,h2⟩:=topmost (P:=λi=>¬(p:Int)∣q i) (n:=n) hne λi hi h=>h (by rw [hq i hi];exact Int.dvd_zero _);refine ⟨k,h1,λi=>?_⟩;dsimp only;split
 ·exact ⟨0,by omega⟩
 ·rename_i h;rw [Int.sub_zero];exact Classical.byContradiction λe=>h2 i (by omega) e
theorem Em  (hp:Prm p){x:Int} (h:(p:Int)∣x*y):(p:Int)∣x∨(p:Int)∣y:=by
 rw [<- Int.natAbs_dvd_natAbs,Int.natAbs_mul,Int.natAbs_natCast] at h;rcases hp.mul h with e | e
 ·exact .inl (by rw [<- Int.natAbs_dvd_natAbs,Int.natAbs_natCast];exact e)
 ·exact .inr (by rw [<- Int.natAbs_dvd_natAbs,Int.natAbs_natCast];exact e)
theorem Ts  (h:2<=n:=by omega):∃p,Prm p∧p∣n:=by
 induction n using Nat.strongRecOn with
 | ind n ih=>
  by_cases hx:∃d,d∣n∧d≠1∧d≠n
  ·obtain ⟨d,h1,h2,h3⟩:=hx;have h4:=Nat.le_of_dvd (by omega) h1;have h5:d≠0:=λe=>by rw [e] at h1;have:=Nat.eq_zero_of_zero_dvd h1;omega
   obtain ⟨p,h6,h7⟩:=ih d (by omega) (by omega);exact ⟨p,h6,Nat.dvd_trans h7 h1⟩
  ·exact ⟨n,⟨h,λd hd=>Classical.byContradiction λhc=>hx ⟨d,hd,λe=>hc (.inl e),λe=>hc (.inr e)⟩⟩,Nat.dvd_refl n⟩
def ei (f:Nat->Int):Prop:=∃n,∀i,n<=i->f i=0
theorem ei.add  (hf:ei f) (hg:ei g):ei (λi=>f i+g i):=by obtain ⟨n,h⟩:=hf;obtain ⟨m,k⟩:=hg;exact ⟨n+m,λi _=>by dsimp only;rw [h i (by omega),k i (by omega)];rfl⟩
theorem ei.mul  (hf:ei f) (c:Int):ei (λi=>c*f i):=by obtain ⟨n,h⟩:=hf;exact ⟨n,λi hi=>by dsimp only;rw [h i hi,Int.mul_zero]⟩
theorem ei.conv  (hf:ei f) (hg:ei g):ei (Sym.conv f g):=by obtain ⟨n,h⟩:=hf;obtain ⟨m,k⟩:=hg;exact ⟨n+m,λ_ _=>sq h k⟩
theorem ei.one (s:Int):ei (λi=>if i=0 then s else 0):=⟨1,λ_ _=>if_neg (by omega)⟩
def Pmt (f:Nat->Int):Prop:=∀p,Prm p->∃i,¬(p:Int)∣f i
theorem Tu  (hp:Prm p) (hf:ei f) (hg:ei g) (hf1:∃i,¬(p:Int)∣f i) (hg1:∃i,¬(p:Int)∣g i):∃i,¬(p:Int)∣conv f g i:=by
 obtain ⟨n,h⟩:=hf;obtain ⟨m,k⟩:=hg;obtain ⟨i,h1,h2⟩:=El h hf1;obtain ⟨j,h3,h4⟩:=El k hg1;refine ⟨i+j,λhd=>?_⟩;have h5:=((h2.Ej g).trans (h4.Ek _)) (i+j);rw [Ei (λ_ _=>if_neg (by omega)) (λ_ _=>if_neg (by omega)),if_pos (Nat.le_refl _),if_pos (Nat.le_refl _)] at h5;have h6:(p:Int)∣f i*g j:=by
  have:=Int.dvd_sub hd h5
  rwa [Int.sub_sub_self] at this
 rcases Em hp h6 with e | e
 ·exact h1 e
 ·exact h3 e
theorem En {c:Int} (h0:c≠0) (h1:c.natAbs≠1):∃(p:Nat) (c':Int),Prm p∧c=p*c'∧c'.natAbs<c.natAbs∧c'≠0:=by obtain ⟨p,hp,hd⟩:=Ts (n:=c.natAbs);obtain ⟨c',hc⟩:=Int.ofNat_dvd_left.2 hd;have h2:c'≠0:=λe=>h0 (by rw [hc,e,Int.mul_zero]);refine ⟨p,c',hp,hc,?_,h2⟩;rw [hc,Int.natAbs_mul,Int.natAbs_natCast];have h3:=Nat.mul_le_mul_right c'.natAbs hp.1;omega
theorem xc {G:Nat->Int} (hG:Pmt G) (hG0:ei G):∀(m:Nat){c:Int}{A X:Nat->Int},c.natAbs<=m->c≠0->ei X->(∀i,c*A i=conv X G i)->∃Y,ei Y∧∀i,A i=conv Y G i
 | 0,c,_,_,hm,h0,_,_=>absurd h0 (by omega)
 | m+1,c,A,X,hm,h0,hX,h=>by
  by_cases h1:c.natAbs=1
  ·refine ⟨λi=>c*X i,hX.mul c,λi=>?_⟩;rw [io,<- h,<- Int.mul_assoc];rcases Int.natAbs_eq c with e | e <;> rw [h1] at e <;> subst e <;> simp
  ·obtain ⟨p,c',hp,hc,hlt,hc0⟩:=En h0 h1;have hpX:∀i,(p:Int)∣X i:=λi=>Classical.byContradiction λhn=>by
    obtain ⟨j,hj⟩:=Tu hp hX hG0 ⟨i,hn⟩ (hG p hp);exact hj ⟨c'*A j,by rw [<- h,hc,Int.mul_assoc]⟩
   obtain ⟨n,hn⟩:=hX;have hp0:(p:Int)≠0:=by have:=hp.1;omega
   have hXe:∀i,X i=p*(X i / p):=λi=>(Int.mul_ediv_cancel' (hpX i)).symm;refine xc hG hG0 m (c:=c') (X:=λi=>X i / p) (by omega) hc0 ⟨n,λi hi=>by dsimp only;rw [hn i hi,Int.zero_ediv]⟩ λi=>?_;have e:conv X G i=p*conv (λi=>X i / p) G i:=by rw [<- io];exact Eo (λi _=>hXe i) λ_ _=>rfl
   refine Int.eq_of_mul_eq_mul_left hp0 ?_;rw [<- e,<- h,hc,Int.mul_assoc]
theorem xd {G:Nat->Int} (hG:Pmt G):∀(m:Nat){c x:Int},c.natAbs<=m->c≠0->(∀i,c∣x*G i)->c∣x
 | 0,c,_,hm,h0,_=>absurd h0 (by omega)
 | m+1,c,x,hm,h0,h=>by
  by_cases h1:c.natAbs=1
  ·exact Int.natAbs_dvd.1 (by rw [h1];exact Int.one_dvd x)
  ·obtain ⟨p,c',hp,hc,hlt,hc0⟩:=En h0 h1;have hp0:(p:Int)≠0:=by have:=hp.1;omega
   obtain ⟨i,hi⟩:=hG p hp;obtain ⟨x',hx⟩:=(Em hp (Int.dvd_trans ⟨c',hc⟩ (h i))).resolve_right hi;have:=xd hG m (c:=c') (x:=x') (by omega) hc0 λj=>by obtain ⟨y,hy⟩:=h j;refine ⟨y,Int.eq_of_mul_eq_mul_left hp0 ?_⟩;rw [<- Int.mul_assoc,<- hx,hy,hc,Int.mul_assoc]
   rw [hx,hc];exact Int.mul_dvd_mul_left _ this
def ti (d f:Nat->Int):Prop:=∃q,ei q∧∀i,f i=conv q d i
structure IsG (a b G:Nat->Int) (d:Nat):Prop where
 qG:ti G a
 tj:ti G b
 oU:Pmt G
 pos:0<G d
 out:∀i,d<i->G i=0
 xe:∃(U V:Nat->Int) (R:Int),R≠0∧ei U∧ei V∧∀i,conv U a i+conv V b i=R*G i
theorem IsG.one {h:Nat->Int}{d e:Nat} (H:IsG a b G d) (ha:ti h a) (hb:ti h b) (hp:Pmt h) (h0:0<h e) (hout:∀i,e<i->h i=0) (hde:d<=e):e=d∧∀i,h i=G i:=by
 obtain ⟨U,V,R,hR,hU,hV,xf⟩:=H.xe;obtain ⟨x,hx,hax⟩:=ha;obtain ⟨y,hy,hby⟩:=hb;obtain rfl:a=conv x h:=funext hax
 obtain rfl:b=conv y h:=funext hby
 have h1:∀i,conv (λi=>conv U x i+conv V y i) h i=R*G i:=λi=>by rw [kJ,oO,oO,xf]
 obtain ⟨n,hn⟩:=(hU.conv hx).add (hV.conv hy);have hne:∃i,conv U x i+conv V y i≠0:=Classical.byContradiction λhno=>by
  have h2:=h1 d;rw [lL λi=>Classical.byContradiction λe=>hno ⟨i,e⟩] at h2;rcases Int.mul_eq_zero.1 h2.symm with e | e
  ·exact hR e
  ·have:=H.pos;omega
 obtain ⟨k,h2,h3⟩:=topmost (P:=λi=>conv U x i+conv V y i≠0) (n:=n) hne λi hi hne=>hne (hn i hi);have h4:=h1 (k+e);rw [Ei (λj hj=>Classical.byContradiction λe=>h3 j hj e) hout] at h4;have h5:k+e<=d:=by
  refine Classical.byContradiction λhc=>?_;rw [H.out _ (by omega),Int.mul_zero] at h4;rcases Int.mul_eq_zero.1 h4 with e | e
  ·exact h2 e
  ·omega
 obtain rfl:k=0:=by omega
 have hed:e=d:=by omega
 subst hed;refine ⟨rfl,?_⟩;have h6:∀i,(conv U x 0+conv V y 0)*h i=R*G i:=λi=>by
  rw [<- h1 i,show (λi=>conv U x i+conv V y i)=λi=>if i=0 then conv U x 0+conv V y 0 else 0 from funext λi=>by
   by_cases hi:i=0
   ·subst hi;rfl
   ·rw [if_neg hi];exact Classical.byContradiction λe=>h3 i (by omega) e,qE,if_pos (by omega),Nat.sub_zero]
 generalize conv U x 0+conv V y 0=s at h2 h6
 have d1:s∣R:=xd H.oU _ (Nat.le_refl _) h2 λi=>⟨h i,(h6 i).symm⟩;have d2:R∣s:=xd hp _ (Nat.le_refl _) hR λi=>⟨G i,h6 i⟩;have h7:s=R:=by
  rcases Int.natAbs_eq_natAbs_iff.1 (Nat.dvd_antisymm (Int.natAbs_dvd_natAbs.2 d1) (Int.natAbs_dvd_natAbs.2 d2)) with q | q
  ·exact q
  ·have h8:=h6 e;have h9:=H.pos;rw [q,Int.neg_mul] at h8;have h10:R*(h e+G e)=0:=by rw [Int.mul_add];omega
   rcases Int.mul_eq_zero.1 h10 with z | z
   ·exact absurd z hR
   ·omega
 rw [h7] at h6;exact λi=>Int.eq_of_mul_eq_mul_left hR (h6 i)
theorem IsG.step {B':Nat->Int}{c s:Int}{d:Nat} (H:IsG B B' G d) (hc:c≠0) (hs:s≠0) (hQ:ei Q) (h:∀i,c*A i=conv Q B i+s*B' i):IsG A B G d:=by
 obtain ⟨U,V,R,hR,hU,hV,xf⟩:=H.xe;obtain ⟨x,hx,hB⟩:=H.qG;obtain ⟨y,hy,hB'⟩:=H.tj;refine ⟨?_,H.qG,H.oU,H.pos,H.out,λi=>c*V i,λi=>s*U i + -1*conv V Q i,s*R,Int.mul_ne_zero hs hR,hV.mul c,(hU.mul s).add ((hV.conv hQ).mul (-1)),λi=>?_⟩
 ·refine xc H.oU ⟨d+1,λi _=>H.out i (by omega)⟩ _ (Nat.le_refl _) hc ((hQ.conv hx).add (hy.mul s)) λi=>?_;rw [h,kJ,io,oO,hB',show B=conv x G from funext hB]
 ·rw [io,kJ,io,io,oO];have e1:=xf i;have e2:c*conv V A i=conv V (conv Q B) i+s*conv V B' i:=by
   rw [nf i V A,<- io,show (λx=>c*A x)=λx=>conv Q B x+s*B' x from funext h,kJ,io,nf i (conv Q B),nf i B']
  rw [e2,Int.mul_assoc,<- e1,Int.mul_add];omega
theorem IsG.last {c:Int}{d:Nat} (hB:Pmt B) (h0:0<B d) (hout:∀i,d<i->B i=0) (hc:c≠0) (hQ:ei Q) (h:∀i,c*A i=conv Q B i):IsG A B B d:=by
 refine ⟨xc hB ⟨d+1,λi _=>hout i (by omega)⟩ _ (Nat.le_refl _) hc hQ h,⟨λi=>if i=0 then 1 else 0,ei.one 1,λi=>?_⟩,hB,h0,hout,λ_=>0,λi=>if i=0 then 1 else 0,1,by omega,⟨0,λ_ _=>rfl⟩,ei.one 1,λi=>?_⟩
 ·rw [qE,if_pos (by omega),Nat.sub_zero,Int.one_mul]
 ·rw [lL λ_=>rfl,qE,if_pos (by omega),Nat.sub_zero,Int.one_mul,Int.zero_add]
section
variable {z:Nat->Int}
end
def gD (a:Nat->Int) (n:Nat) (b:Nat->Int) (m:Nat):Nat->Int:=λi=>
 if i<n then a i*((b (m-1)).natAbs:Int)-(if n-m<=i then (if b (m-1)<0 then -a (n-1) else a (n-1))*b (i-(n-m)) else 0) else 0
def cw (a:Nat->Int) (n:Nat) (b:Nat->Int) (m:Nat):Nat->(Nat->Int)×Nat
 | 0=>(a,n)
 | j+1=>(gD (cw a n b m j).1 (cw a n b m j).2 b m,tl (gD (cw a n b m j).1 (cw a n b m j).2 b m) (cw a n b m j).2)
theorem ab1  (ha:∀i,n<=i->a i=0) (hb:∀i,m<=i->b i=0) (hm:0<m) (hnm:m<=n) (i:Nat) :
  ((b (m-1)).natAbs:Int)*a i=conv (λx=>if x=n-m then (if b (m-1)<0 then -a (n-1) else a (n-1)) else 0) b i+gD a n b m i:=by
 rw [qE];unfold gD;rcases Nat.lt_or_ge i n with h | h
 ·rw [if_pos h,Int.mul_comm];omega
 ·rw [if_pos (show n-m<=i by omega),if_neg (show ¬i<n by omega),ha i h,hb (i-(n-m)) (by omega)];simp
theorem ab2  (hm:0<m) (hnm:m<=n):gD a n b m (n-1)=0:=by
 unfold gD;rw [if_pos (by omega),if_pos (by omega),show n-1-(n-m)=m-1 by omega];split
 ·rw [show ((b (m-1)).natAbs:Int) = -b (m-1) by omega,Int.neg_mul,Int.mul_neg];omega
 ·rw [show ((b (m-1)).natAbs:Int)=b (m-1) by omega];omega
theorem ab3  (h:f (n-1)=0) (hn:0<n:=by omega):tl f n<n:=by obtain ⟨k,rfl⟩:∃k,n=k+1:=⟨n-1,by omega⟩;unfold tl;rw [if_pos (by rwa [Nat.add_sub_cancel] at h)];have:=bg f k;omega
theorem ab4  (h:∀i,n<=i->f i=0):∀i,tl f n<=i->f i=0:=λi hi=>by
 rcases Nat.lt_or_ge i n with h1 | h1
 ·exact gH _ _ i hi h1
 ·exact h i h1
theorem yY {a:Nat->Int}{n:Nat}{b:Nat->Int}{m:Nat} (ha:∀i,n<=i->a i=0) (hb:∀i,m<=i->b i=0) (hm:0<m) (hb1:b (m-1)≠0):∀{j:Nat},(∀k,k<j->m<=(cw a n b m k).2)->
  (∀i,(cw a n b m j).2<=i->(cw a n b m j).1 i=0)∧(cw a n b m j).2+j<=n∧∃(c:Int) (Q:Nat->Int),c≠0∧ei Q∧∀i,c*a i=conv Q b i+(cw a n b m j).1 i
 | 0,_=>⟨ha,Nat.le_refl _,1,λ_=>0,by omega,⟨0,λ_ _=>rfl⟩,λi=>by rw [lL λ_=>rfl];show 1*a i=0+a i;omega⟩
 | j+1,h=>by
  obtain ⟨h1,h2,c,Q,hc,hQ,h3⟩:=yY ha hb hm hb1 (j:=j) λk hk=>h k (by omega);have hmj:=h j (by omega);have hz:∀i,(cw a n b m j).2<=i->gD (cw a n b m j).1 (cw a n b m j).2 b m i=0:=λi hi=>if_neg (by omega);refine ⟨ab4 hz,?_,((b (m-1)).natAbs:Int)*c,λi=>((b (m-1)).natAbs:Int)*Q i+(if i=(cw a n b m j).2-m then (if b (m-1)<0 then -(cw a n b m j).1 ((cw a n b m j).2-1) else (cw a n b m j).1 ((cw a n b m j).2-1)) else 0),Int.mul_ne_zero (by omega) hc,?_,λi=>?_⟩
  ·have:=ab3 (f:=gD (cw a n b m j).1 (cw a n b m j).2 b m) (n:=(cw a n b m j).2) (ab2 hm hmj);show tl _ _+(j+1)<=n;omega
  ·refine (hQ.mul _).add ⟨(cw a n b m j).2-m+1,λ_ _=>if_neg (by omega)⟩
  ·rw [kJ,io,Int.mul_assoc,h3,Int.mul_add,ab1 h1 hb hm hmj];show _=_+_+gD (cw a n b m j).1 (cw a n b m j).2 b m i;omega
def nH (m:Nat) (f:Nat->Nat):Nat->Nat
 | 0=>0
 | n+1=>if f 0<m then 0 else nH m (λj=>f (j+1)) n+1
theorem Jn {m:Nat}:∀{n:Nat}{f:Nat->Nat},(∃j,j<=n∧f j<m)->nH m f n<=n∧f (nH m f n)<m∧∀k,k<nH m f n->m<=f k
 | 0,f,⟨j,h1,h2⟩=>by
  obtain rfl:j=0:=by omega
  exact ⟨Nat.le_refl _,h2,λ_ hk=>absurd hk (by unfold nH;omega)⟩
 | n+1,f,⟨j,h1,h2⟩=>by
  unfold nH;by_cases h0:f 0<m
  ·rw [if_pos h0];exact ⟨by omega,h0,λ_ hk=>absurd hk (by omega)⟩
  ·rw [if_neg h0];cases j with
   | zero=>exact absurd h2 h0
   | succ j=>
    obtain ⟨h3,h4,h5⟩:=Jn (m:=m) (n:=n) (f:=λj=>f (j+1)) ⟨j,by omega,h2⟩;refine ⟨by omega,h4,λk hk=>?_⟩;cases k with
    | zero=>omega
    | succ k=>exact h5 k (by omega)
def pz (a:Nat->Int) (n:Nat) (b:Nat->Int) (m:Nat):Nat:=nH m (λj=>(cw a n b m j).2) n
def rsE (a:Nat->Int) (n:Nat) (b:Nat->Int) (m:Nat):(Nat->Int)×Nat:=cw a n b m (pz a n b m)
theorem IY  (ha:∀i,n<=i->a i=0) (hb:∀i,m<=i->b i=0) (hm:0<m) (hb1:b (m-1)≠0) :
  (pz a n b m<=n∧(rsE a n b m).2<m∧∀k,k<pz a n b m->m<=(cw a n b m k).2)∧(∀i,(rsE a n b m).2<=i->(rsE a n b m).1 i=0)∧∃(c:Int) (Q:Nat->Int),c≠0∧ei Q∧∀i,c*a i=conv Q b i+(rsE a n b m).1 i:=by
 have hex:∃j,j<=n∧(cw a n b m j).2<m:=Classical.byContradiction λhno=>by have hall:∀k,k<=n->m<=(cw a n b m k).2:=λk hk=>Classical.byContradiction λ_=>hno ⟨k,hk,by omega⟩;have h1:=(yY ha hb hm hb1 (j:=n) λk _=>hall k (by omega)).2.1;have h2:=hall n (Nat.le_refl _);omega
 have h:=Jn (m:=m) (f:=λj=>(cw a n b m j).2) hex;have h3:=yY ha hb hm hb1 (j:=pz a n b m) h.2.2;exact ⟨h,h3.1,h3.2.2⟩
theorem IsG.symm {d:Nat} (H:IsG a b G d):IsG b a G d:=by obtain ⟨U,V,R,hR,hU,hV,h⟩:=H.xe;exact ⟨H.tj,H.qG,H.oU,H.pos,H.out,V,U,R,hR,hV,hU,λi=>by rw [Int.add_comm];exact h i⟩
theorem IsG.same {G':Nat->Int}{d d':Nat} (H:IsG a b G d) (H':IsG a b G' d'):d=d'∧∀i,G i=G' i:=by
 rcases Nat.le_total d d' with h | h
 ·have:=H.one H'.qG H'.tj H'.oU H'.pos H'.out h;exact ⟨this.1.symm,λi=>(this.2 i).symm⟩
 ·have:=H'.one H.qG H.tj H.oU H.pos H.out h;exact this
theorem yZ {q r:Nat->Rat}:∀{n:Nat},(∀i,i<n->q i=r i)->dnL q n=dnL r n
 | 0,_=>rfl
 | n+1,h=>by rw [dnL,dnL,yZ λi _=>h i (by omega),h n (by omega)]
theorem zb {q r:Nat->Rat}{n:Nat}:∀m,dnL (bm n q r) (n+m)=Nat.lcm (dnL q n) (dnL r m)
 | 0=>by rw [show dnL r 0=1 from rfl,Nat.lcm_one_right];exact yZ λ_ hi=>if_pos hi
 | m+1=>by show Nat.lcm (dnL (bm n q r) (n+m)) (bm n q r (n+m)).den=Nat.lcm (dnL q n) (Nat.lcm (dnL r m) (r m).den);rw [zb m,Nat.lcm_assoc,bm,if_neg (by omega),Nat.add_sub_cancel_left]
theorem Jo {q:Nat->Rat}{t:Nat}:∀{n:Nat},t<=n->(∀i,t<=i->i<n->(q i).den=1)->dnL q n=dnL q t
 | 0,h,_=>by
  obtain rfl:t=0:=by omega
  rfl
 | n+1,h,h1=>by
  rcases Nat.lt_or_ge n t with h2 | h2
  ·obtain rfl:t=n+1:=by omega
   rfl
  ·rw [dnL,Jo h2 λi a _=>h1 i a (by omega),h1 n h2 (by omega),Nat.lcm_one_right]
def aG (e:Int) (z:Nat->Int) (i:Nat):Rat:=((z i:Int):Rat)*aH 1 e
def dN (e:Int) (x y:Nat->Int) (n m:Nat):Nat:=dnL (bm n (aG e x) (aG e y)) (n+m)
def fx (e:Int) (D:Nat) (z:Nat->Int) (n:Nat):List Int:=mk (tl z n) (cuX (aG e z) D)
def ceE (d:Int):Int:=if d=0 then 1 else d
theorem pt (d:Int):ceE d≠0:=by unfold ceE;split <;> omega
theorem ul {e:Int} (he:e≠0):aH 1 e*((e:Int):Rat)=1:=by rw [iN he,Rat.divInt_eq_div,Rat.div_mul_cancel (λh=>he (by exact_mod_cast h))];rfl
section
variable {e s c:Int}{x y:Nat->Int}{Lx Ly:List Int}
theorem ab5 (hX:aw (mk n x)=Lx) (hY:aw (mk m y)=Ly):dN e (ae Lx) (ae Ly) Lx.length Ly.length=dN e x y n m:=by
 have one:∀{z:Nat->Int}{l:Nat}{L:List Int},aw (mk l z)=L->dnL (aG e (ae L)) L.length=dnL (aG e z) l:=λ{z l L} h=>by
  have hl:=jL h;rw [Jo (q:=aG e z) (t:=tl z l) (bg z l) λi h1 h2=>?_]
  ·rw [hl];exact yZ λi hi=>by rw [aG,aG,qi h i hi]
  ·rw [aG,gH z l i h1 h2,show (((0:Int):Int):Rat)=0 from rfl,Rat.zero_mul];rfl
 rw [dN,dN,zb,zb,one hX,one hY]
theorem Jp {D:Nat} (hX:aw (mk n x)=Lx):mk Lx.length (cuX (aG e (ae Lx)) D)=fx e D x n:=by rw [fx,jL hX];exact mk_congr λi hi=>by unfold cuX aG;rw [qi hX i hi]
theorem Jq (he:e≠0) (hs:s=1∨s = -1) (hC:0<s*e) :
  ((dN e x y n m:Nat):Int)*((aT (cJ (aE x y) (aE n m) e) ((bj (aE x y) (aE n m) 2).length+1):Nat):Int)=s*e∧(∀i,i<n->s*x i=cuX (aG e x) (dN e x y n m) i*((aT (cJ (aE x y) (aE n m) e) ((bj (aE x y) (aE n m) 2).length+1):Nat):Int))∧(∀i,i<m->s*y i=cuX (aG e y) (dN e x y n m) i*((aT (cJ (aE x y) (aE n m) e) ((bj (aE x y) (aE n m) 2).length+1):Nat):Int)):=by
 have hq:∀a:Int,((a:Int):Rat)*aH 1 e*(((s*e:Int):Int):Rat)=(((s*a:Int):Int):Rat):=λa=>by
  have:=ul he;rw [Rat.intCast_mul,Rat.intCast_mul];generalize aH 1 e=u at *
  grind
 have h:=BU (q:=bm n (aG e x) (aG e y)) (R:=dJ n (λi=>s*x i) (λi=>s*y i)) (C:=s*e) (n:=n+m) hC λi hi=>by
  unfold bm dJ aG;split
  ·exact hq _
  ·exact hq _
 have hg:aT (dJ (n+m) (dJ n (λi=>s*x i) (λi=>s*y i)) λ_=>s*e) (n+m+1)=aT (cJ (aE x y) (aE n m) e) ((bj (aE x y) (aE n m) 2).length+1):=by
  have h1:∀i,i<n+m+1->dJ (n+m) (dJ n (λi=>s*x i) (λi=>s*y i)) (λ_=>s*e) i=cJ (aE x y) (aE n m) e i*s:=λi hi=>by
   unfold dJ;split
   ·split
    ·rw [vZ,Int.mul_comm]
    ·have:=wa (x:=x) (y:=y) (nx:=n) (ny:=m) (d:=e) (i:=i-n);rw [show n+(i-n)=i by omega] at this;rw [this,Int.mul_comm]
   ·obtain rfl:i=n+m:=by omega
    have:=qe (zz:=aE x y) (ln:=aE n m) (d:=e);rw [kE] at this;rw [<- this,Int.mul_comm]
  rw [kE,qg h1,sA];rcases hs with rfl | rfl
  ·exact Nat.mul_one _
  ·exact Nat.mul_one _
 rw [hg] at h;refine ⟨h.1,λi hi=>?_,λi hi=>?_⟩
 ·have:=h.2 i (by omega)
  rwa [dJ,if_pos hi,show cuX (bm n (aG e x) (aG e y)) (dnL (bm n (aG e x) (aG e y)) (n+m)) i=cuX (aG e x) (dN e x y n m) i by unfold cuX bm dN;rw [if_pos hi];rfl] at this
 ·have:=h.2 (n+i) (by omega)
  rwa [dJ,if_neg (by omega),Nat.add_sub_cancel_left,show cuX (bm n (aG e x) (aG e y)) (dnL (bm n (aG e x) (aG e y)) (n+m)) (n+i)=cuX (aG e y) (dN e x y n m) i by unfold cuX dN;rw [show bm n (aG e x) (aG e y) (n+i)=aG e y i by rw [bm,if_neg (by omega),Nat.add_sub_cancel_left]]] at this
theorem Jr (he:e≠0) (hs:s=1∨s = -1) (hc:s*((aT (cJ (aE x y) (aE n m) e) ((bj (aE x y) (aE n m) 2).length+1):Nat):Int)=c) (hC:0<s*e:=by omega) :
  c≠0∧dvL x n c=fx e (dN e x y n m) x n∧dvL y m c=fx e (dN e x y n m) y m∧e / c=((dN e x y n m:Nat):Int):=by
 have h:=Jq (n:=n) (m:=m) (x:=x) (y:=y) he hs hC;have h0:=sm (zz:=aE x y) (ln:=aE n m) he;generalize ((aT (cJ (aE x y) (aE n m) e) ((bj (aE x y) (aE n m) 2).length+1):Nat):Int)=g at h h0 hc;have hc0:c≠0:=by rcases hs with rfl | rfl <;> omega
 have mv:∀{a b:Int},s*a=b*g->a / c=b:=λ{a b} h=>by
  have:a=b*c:=by
   rcases hs with rfl | rfl
   ·rw [<- hc,Int.one_mul,<- h,Int.one_mul]
   ·rw [<- hc,Int.neg_one_mul,Int.mul_neg,<- h];omega
  rw [this,Int.mul_ediv_cancel _ hc0]
 exact ⟨hc0,mk_congr λi hi=>mv (h.2.1 i (Nat.lt_of_lt_of_le hi (bg _ _))),mk_congr λi hi=>mv (h.2.2 i (Nat.lt_of_lt_of_le hi (bg _ _))),mv h.1.symm⟩
theorem ab6 (he:e≠0):∃s:Int,(s=1∨s = -1)∧0<s*e:=by
 rcases Int.lt_or_gt_of_ne he with h | h
 ·exact ⟨-1,.inr rfl,by omega⟩
 ·exact ⟨1,.inl rfl,by omega⟩
end
structure gk (x y:Nat->Int) (n m:Nat) (d:Int) (X Y:List Int) (D:Int):Prop where
 hX:fx (ceE d) (dN (ceE d) x y n m) x n=X
 hY:fx (ceE d) (dN (ceE d) x y n m) y m=Y
 hD:((dN (ceE d) x y n m:Nat):Int)=D
theorem gk.pos {x y:Nat->Int}{d:Int} (h:gk x y n m d X Y D):0<D:=by have:0<dN (ceE d) x y n m:=lD _ _;rw [<- h.hD];omega
theorem gk.ok {x y:Nat->Int}{d:Int} (h:gk x y n m d X Y D) (hx:∀i,i<n->Bd (x i).natAbs k) (hy:∀i,i<m->Bd (y i).natAbs k) (hd:Bd d.natAbs k) (hk:1<=k) (hn:n<=c) (hm:m<=c):EOk c k X∧EOk c k Y∧EOk 1 k [D]:=by
 obtain ⟨s,hs,hC⟩:=ab6 (pt d);have hl:=Jq (n:=n) (m:=m) (x:=x) (y:=y) (pt d) hs hC;have h0:=sm (zz:=aE x y) (ln:=aE n m) (pt d);have hp:=h.pos;have hde:Bd (ceE d).natAbs k:=by
  unfold ceE;split
  ·exact dV hk
  ·exact hd
 generalize aT (cJ (aE x y) (aE n m) (ceE d)) ((bj (aE x y) (aE n m) 2).length+1)=g at hl h0;have hg:0<g:=by omega
 have hsn:∀a:Int,(s*a).natAbs=a.natAbs:=λa=>by
  rw [Int.natAbs_mul];rcases hs with rfl | rfl
  ·exact Nat.one_mul _
  ·exact Nat.one_mul _
 have le:∀{a b:Int},s*a=b*(g:Int)->b.natAbs<=a.natAbs:=λ{a b} e=>by rw [<- hsn a,e,Int.natAbs_mul,Int.natAbs_natCast];exact Nat.le_mul_of_pos_right _ hg
 have one:∀{z:Nat->Int}{l:Nat},l<=c->(∀i,i<l->Bd (z i).natAbs k)->(∀i,i<l->s*z i=cuX (aG (ceE d) z) (dN (ceE d) x y n m) i*(g:Int))->EOk c k (fx (ceE d) (dN (ceE d) x y n m) z l):=λ{z l} hlc hb hz=>by
  refine ⟨?_,λh0=>?_,λi=>?_⟩
  ·rw [fx,dc];exact Nat.le_trans (bg _ _) hlc
  ·rw [fx,dc] at h0 ⊢;have ht:=bg z l;rw [cU,if_pos (by omega)];intro e;have h1:=hz (tl z l-1) (by omega);rw [e,Int.zero_mul] at h1;have h2:=fG z l h0;rcases Int.mul_eq_zero.1 h1 with h3 | h3
   ·rcases hs with rfl | rfl <;> omega
   ·exact h2 h3
  ·rw [fx,cU];split
   ·next hi=>
    have ht:=bg z l;exact (hb i (by omega)).le (le (hz i (by omega)))
   ·exact Nat.pow_pos (by omega)
 refine ⟨h.hX▸one hn hx hl.2.1,h.hY▸one hm hy hl.2.2,Nat.le_refl _,λ_=>?_,λi=>?_⟩
 ·show D≠0;omega
 ·match i with
  | 0=>exact hde.le (le (h.hD▸hl.1).symm)
  | i+1=>rw [et (by simp)];exact Nat.pow_pos (by omega)
theorem Js:∀(p:Nat){f g:Nat->Int},(∀i,1<=i->g i=0)->conv f g p=f p*g 0
 | 0,_,_,_=>rfl
 | p+1,f,g,h=>by rw [conv,Js p h,h (p+1) (by omega),Int.mul_zero,Int.zero_add]
theorem um {P:List Int}:aw (mk P.length λi=>ae P i*y)=adI P [y]:=by
 refine sW (jO _) (oC _ _ _ _) λi=>?_;rw [ig,cU,adI,GZ,Js i (λj hj=>lC (show [y].length<=j from hj)),GV];split
 ·rfl
 ·rw [et (by omega),Int.zero_mul]
end Go.Proofs.YtlmanbjkkjfjgaaGreat.Sym
