/- The reference's minors and determinants. Layer 13's rows of polynomials, the program's and the reference's, made at once. -/
import Derived.Test.YtomamliepbhegaaDtP
import Derived.Test.YtomamliepbhegaaCatN
import Derived.Test.YtomamliepbhegaaDivW
import Derived.Test.YtomamliepbhegaaPolI
set_option maxRecDepth 100000
namespace Go.Proofs.Ytomamliepbhegaa.Sym
open Go.RowKit
def bp (L:Nat->List Int) (K k:Nat) (w:World) (v:Value):Prop:=Rw 4 (fun ι w v=>am w v ((ae (L k) ι:Int):Rat) K) (L k).length w v
def aP (M:Nat->Nat->List Int) (m K i:Nat) (w:World) (v:Value):Prop:=Rw 1 (ah (bp (M i) K)) m w v
theorem lk (L:Nat->List Int) (K k:Nat) (w:World) (s:Value) (h:bp L K k w s):∃p n c,s = .slice p n c:=bO h
theorem slM (M:Nat->Nat->List Int) (m K i:Nat) (w:World) (s:Value) (h:aP M m K i w s):∃p n c,s = .slice p n c:=bO h
theorem ll (L:Nat->List Int) (K k:Nat):cg (bp L K k):=rE (z0:=.bool true) (fun _ _ _ _ g h=>am.kp h g) fun i w l h hl=>by
 obtain ⟨p,n,c,b,p',n',c',b',e,-⟩:=h
 obtain rfl:l = [.slice p n c,.bool b,.slice p' n' c',.bool b']:=by simpa using e
 exact ⟨_,rfl,fun h=>by (cases h),fun _ _ h=>by cases h⟩
theorem rF (M:Nat->Nat->List Int) (m K i:Nat):cg (aP M m K i):=rG (lk _ _) (ll _ _)
def dcr (k c:Nat):Nat:=if c<=k then c else c-1
theorem rH {k c:Nat} (h:c=k):dcr k (c+1)=dcr k c:=by unfold dcr;split <;> split <;> omega
theorem rI {k c:Nat} (h:¬c=k):dcr k (c+1)=dcr k c+1:=by unfold dcr;split <;> split <;> omega
theorem rJ {k c:Nat} (h:¬c=k):ab k (dcr k c)=c:=by unfold dcr ab;split <;> split <;> omega
theorem nA {k m:Nat} (h:k<m):dcr k m=m-1:=by unfold dcr;split <;> omega
theorem rK (k c:Nat):dcr k c<=c:=by unfold dcr;split <;> omega
theorem zU {P:Program}{m:Op->Option (List Operand)}{Φ:PH}{f x y i:Nat}{ls:List Arg}{F:PH} (h:aj Φ P ⟨f,ls,[oS x],.quiet m⟩) (hy:Φ y=ah F i) (hF:∀w v,Φ x w v->F i w v):aj Φ P ⟨f,ls,[⟨.one .s,[(0,0,x),(0,2,y)]⟩],.quiet m⟩:=fun X w a o xs hX hm ha=>by
 obtain ⟨u,w',h1,h2,⟨h3,h4⟩,h5⟩:=h X w a o xs hX hm ha
 refine ⟨u,w',h1,h2,⟨h3,fun q hq w1 hw=>?_⟩,h5⟩
 simp only [List.mem_cons,List.not_mem_nil,or_false] at hq
 rcases hq with rfl | rfl
 ·exact h4 _ (List.mem_singleton.2 rfl) w1 hw
 ·obtain ⟨⟨p,n,c,rfl⟩,-⟩:=h3
  show Φ y w1 _
  rw [hy]
  exact ⟨_,rfl,hF _ _ (h4 (0,0,x) (List.mem_singleton.2 rfl) w1 hw)⟩
theorem lm {Φ:PH}{x q i:Nat}{F:PH} (hx:Φ x=ah F i) (h:∀w v,Φ q w v->F i w v) (X:Nat->Prop) (w:World) (v:Value) (hv:(Arg.parts (.agg [.s]) [(0,1,q)]).ok Φ X w v):(Arg.fact x).ok Φ X w v:=fun w1 hw=>by
 rw [hx]
 obtain ⟨⟨vs,rfl,h1⟩,h2⟩:=hv
 match vs,h1 with
 | [s],_=>exact ⟨s,rfl,h _ _ (h2 (0,1,q) (List.mem_singleton.2 rfl) w1 hw)⟩
def jK (M:Nat->Nat->List Int) (n m K i k:Nat):List WP:=[Rw 1 (ah (aP M m K)) n,Nz i,Nz k,Nz n,aE 42 (aP (mnr M i k) (m-1) K) (dcr i n)]
def zV (M:Nat->Nat->List Int) (m K k:Nat) (r c:Nat):List WP:=[Nz c,aE 36 (bp (fun c'=>M r (ab k c')) K) (dcr k c),fun _ _=>True,Nz (c+1),Ptr 1 (ah (aP M m K) r),Rw 1 (ah (bp (M r) K)) m,Ptr 1 (ah (bp (M r) K) c),fun w v=>Rw 4 (fun ι w v=>am w v ((((ae ((M r) c)) ι:Int):Rat)) K) (((M r) c).length) w v,ah (bp (fun c'=>M r (ab k c')) K) (dcr k c),aE 36 (bp (fun c'=>M r (ab k c')) K) ((dcr k c)+1),Nz (c+1)]
def rL:bf:=⟨[0,1,2,6,7,8,11,12,13,14,15,16,17,18,19,20,21,22,23],[(.slot 24,.i),(.slot 9,.s)],[(.one 0,16),(.one 1,.bT [2] 17),(.one 1,.lo 2)],[.closed (.one (.ci .i64 0)),.closed (.one (.nl)),.frm 0],16,[(17,12)]⟩
def rM:List Step:=[bQ [.fact 16,.fact 11] oT (ai .lss),
   bQ [.fact 16,.fact 2] oF (ai .neq),
   bQ [.fact 16,.lit (.ci .i64 1)] [oN 19] (ai .add)]
def rN:List Step:=[bQ [.fact 16,.fact 11] oT (ai .lss),
   bQ [.fact 16,.fact 2] oT (ai .neq),
   bQ [.fact 0,.fact 5] [oP 20] (aI 25),
   bQ [.fact 20] [oS 21] (aL 42),
   bQ [.fact 21,.fact 16] [oP 22] (aI 42),
   bQ [.fact 22] [⟨.one (.s),[(0,0,23),(0,2,24)]⟩] (aL 36),
   .base ⟨0,[.fact 17,.row 1 [24]],[oS 25],.loose [] 2 0 (cf 42 42)⟩,
   bQ [.fact 16,.lit (.ci .i64 1)] [oN 26] (ai .add)]
def zW:List Step:=[bQ [.fact 16,.fact 11] oF (ai .lss)]
def nB (M:Nat->Nat->List Int) (m K i k:Nat) (r:Nat):List WP:=[Nz r,aE 42 (aP (mnr M i k) (m-1) K) (dcr i r),fun _ _=>True,Nz (r+1),Ptr 1 (ah (aP M m K) r),Rw 1 (ah (bp (M r) K)) m,Nz m,aE 36 (bp (fun c'=>M r (ab k c')) K) (dcr k m),ah (aP (mnr M i k) (m-1) K) (dcr i r),aE 42 (aP (mnr M i k) (m-1) K) ((dcr i r)+1),Nz (r+1)]
def rO:bf:=⟨[0,1,2,6,11,12],[(.slot 13,.i),(.slot 7,.s)],[(.one 0,5),(.one 1,.bT [1] 6),(.one 1,.lo 1)],[.closed (.one (.ci .i64 0)),.closed (.one (.nl)),.frm 0],5,[(6,4)]⟩
def rP:List Step:=[bQ [.fact 5,.fact 3] oT (ai .lss),
   bQ [.fact 5,.fact 1] oT (ai .eql),
   bQ [.fact 5,.lit (.ci .i64 1)] [oN 8] (ai .add)]
def rQ:List Step:=[bQ [.fact 5,.fact 3] oT (ai .lss),
   bQ [.fact 5,.fact 1] oF (ai .eql),
   bQ [.fact 0,.fact 5] [oP 9] (aI 25),
   bQ [.fact 9] [oS 10] (aL 42),
   bQ [.fact 10] [oN 11] (aD 42),
   .loop rL [(rM,[.frm 19,.frm 17,.frm 0]),(rN,[.frm 26,.frm 25,.frm 0])] zW,
   .shut 2,
   .derive (.agg [.s 20 1]) (.agg [.s]) [(0,1,12)] 13,
   .base ⟨0,[.fact 6,.row 1 [13]],[oS 14],.loose [] 1 0 (cf 25 25)⟩,
   bQ [.fact 5,.lit (.ci .i64 1)] [oN 15] (ai .add)]
def zX:List Step:=[bQ [.fact 5,.fact 3] oF (ai .lss)]
def zY:List Step:=[bQ [.fact 0] [oN 3] (aD 25),
   .loop rO [(rP,[.frm 8,.frm 6,.frm 0]),(rQ,[.frm 15,.frm 14,.frm 0])] zX]
def zZ:List Out:=[oS 0,oN 1,oN 2]
theorem rR {M:Nat->Nat->List Int}{n m K i k:Nat} (hn:n<=1000) (hm:m<=1000) (hi:i<n) (hk:k<m):aj (ph (jK M n m K i k)) Try.prog ⟨15,[.fact 0,.fact 1,.fact 2],[oS 4],false⟩:=by
 skip
 exact aR zZ [oS 4] zY Try.func15 (by kernel_rfl)
  (lB (aG (F:=(ah (aP M m K))) Try.underlying25 aa rfl)
   (bI (counted n (fun r=>ph (jK M n m K i k ++ nB M m K i k r)) (fun r=>if r=i then 0 else 1) (fun r p hp=>bJ (show p<(jK M n m K i k).length from hp)) ⟨fun _=>rfl,fun w=>aE.nil 42 (aP (mnr M i k) (m-1) K) w,aW,trivial⟩ (fun r hr=>by
   have hdi:=rK i r
   by_cases hcr:r=i
   ·skip
    exact ⟨(rP,[.frm 8,.frm 6,.frm 0]),by rw [if_pos hcr];rfl,⟨aa,fun w v h=>show aE 42 (aP (mnr M i k) (m-1) K) (dcr i (r+1)) w v by rw [rH hcr];exact h,aW,trivial⟩,(lB (bm aa aa)
   (lB (cM (op:=.eql) aa aa (aS (decide_eq_true (by omega)) (by simp)))
   (lB (bt aa (by omega) rfl (by omega) (by omega))
   aA)))⟩
   ·skip
    exact ⟨(rQ,[.frm 15,.frm 14,.frm 0]),by rw [if_neg hcr];rfl,⟨aa,fun w v h=>show aE 42 (aP (mnr M i k) (m-1) K) (dcr i (r+1)) w v by rw [rI hcr];exact h,aW,trivial⟩,(lB (bm aa aa)
   (lB (cM (op:=.eql) aa aa (aS (decide_eq_false (by omega)) (by simp)))
   (lB (bc (i:=r) (F:=(ah (aP M m K))) Try.underlying25 (by kernel_rfl) aa aa (by omega) rfl)
   (lB (KU (G:=Rw 1 (ah (bp (M r) K)) m) (by kernel_rfl) aa (fun _ _ h=>bO h) rfl)
   (lB (aG (F:=(ah (bp (M r) K))) Try.underlying42 aa rfl)
   (bI (counted m (fun c=>ph ((jK M n m K i k ++ nB M m K i k r) ++ zV M m K k r c)) (fun c=>if c=k then 0 else 1) (fun c p hp=>bJ (show p<(jK M n m K i k ++ nB M m K i k r).length from hp)) ⟨fun _=>rfl,fun w=>aE.nil 36 (bp (fun c'=>M r (ab k c')) K) w,aW,trivial⟩ (fun c hc=>by
   have hdk:=rK k c
   by_cases hcc:c=k
   ·skip
    exact ⟨(rM,[.frm 19,.frm 17,.frm 0]),by rw [if_pos hcc];rfl,⟨aa,fun w v h=>show aE 36 (bp (fun c'=>M r (ab k c')) K) (dcr k (c+1)) w v by rw [rH hcc];exact h,aW,trivial⟩,(lB (bm aa aa)
   (lB (cM (op:=.neq) aa aa (aS (decide_eq_false (fun h=>h (by omega))) (by simp)))
   (lB (bt aa (by omega) rfl (by omega) (by omega))
   aA)))⟩
   ·skip
    exact ⟨(rN,[.frm 26,.frm 25,.frm 0]),by rw [if_neg hcc];rfl,⟨aa,fun w v h=>show aE 36 (bp (fun c'=>M r (ab k c')) K) (dcr k (c+1)) w v by rw [rI hcc];exact h,aW,trivial⟩,(lB (bm aa aa)
   (lB (cM (op:=.neq) aa aa (aS (decide_eq_true (by omega)) (by simp)))
   (lB (bc (i:=r) (F:=(ah (aP M m K))) Try.underlying25 (by kernel_rfl) aa aa (by omega) rfl)
   (lB (KU (G:=Rw 1 (ah (bp (M r) K)) m) (by kernel_rfl) aa (fun _ _ h=>bO h) rfl)
   (lB (bc (i:=c) (F:=(ah (bp (M r) K))) Try.underlying42 (by kernel_rfl) aa aa (by omega) rfl)
   (lB (zU (F:=(bp (fun c'=>M r (ab k c')) K)) (i:=(dcr k c)) (KU (G:=fun w v=>Rw 4 (fun ι w v=>am w v ((((ae ((M r) c)) ι:Int):Rat)) K) (((M r) c).length) w v) (by kernel_rfl) aa (fun _ _ h=>bO h) rfl) rfl (fun w v h=>show Rw 4 (fun ι w v=>am w v ((ae (M r (ab k (dcr k c))) ι:Int):Rat) K) (M r (ab k (dcr k c))).length w v by rw [rJ hcc];exact h))
   (lB (fY (n:=(dcr k c)) (F:=(bp (fun c'=>M r (ab k c')) K)) Try.underlying42 (by kernel_rfl) (lk _ _) (ll _ _) aa aa (by omega) rfl)
   (lB (bt aa (by omega) rfl (by omega) (by omega))
   aA))))))))⟩
)
   (lB (tlF aa aa)
   aA)
   (fun q hq w v h=>by
    simp only [rL,List.mem_cons,List.not_mem_nil,or_false] at hq
    rcases hq with rfl
    ·exact (fun h=>h) h)) (nC (cA (lm (F:=(aP (mnr M i k) (m-1) K)) (i:=(dcr i r)) rfl (fun _ _ h=>by rw [aP,<- nA hk,show mnr M i k (dcr i r)=fun c'=>M r (ab k c') by funext c';rw [mnr,rJ hcr]];exact aE.rw h))
   (lB (fY (n:=(dcr i r)) (F:=(aP (mnr M i k) (m-1) K)) Try.underlying25 (by kernel_rfl) (slM _ _ _) (rF _ _ _) aa aa (by omega) rfl)
   (lB (bt aa (by omega) rfl (by omega) (by omega))
   aA))))))))))⟩
)
   (lB (tlF aa aa)
   aA)
   (fun q hq w v h=>by
    simp only [rO,List.mem_cons,List.not_mem_nil,or_false] at hq
    rcases hq with rfl
    ·exact (fun h=>h) h)) aA))
  (aJ [.fact 0 (.one (.s)),.fact 1 (.one (.i)),.fact 2 (.one (.i))] ⟨Rw.Is 1 (ah (aP M m K)) n,fun _ _ h=>h▸aQ _,fun _ _ h=>h▸aQ _,trivial⟩) (fun _ _ _ h=>h)
section
variable {Φ:PH}{p q r x n m K i k:Nat}{M:Nat->Nat->List Int}
theorem Ng (hp:∀w v,Φ p w v->Rw 1 (ah (aP M m K)) n w v) (hq:∀w v,Φ q w v->v = .int .i64 (i:Int)) (hr:∀w v,Φ r w v->v = .int .i64 (k:Int)) (hx:Φ x=Rw 1 (ah (aP (mnr M i k) (m-1) K)) (n-1)) (hn:n<=1000) (hm:m<=1000) (hi:i<n) (hk:k<m):aj Φ Try.prog ⟨15,[.fact p,.fact q,.fact r],[oS x],false⟩:=
 aT (rR (M:=M) (K:=K) hn hm hi hk) ⟨hp,hq,hr,trivial⟩ ⟨⟨rfl,⟨rfl,rfl,fun _ _ h=>by rw [hx,<- nA hi];exact aE.rw h⟩,trivial⟩,trivial⟩
theorem rS (hp:∀w v,Φ p w v->Rw 1 (ah (aP M n K)) n w v) (hr:∀w v,Φ r w v->v = .int .i64 (k:Int)) (hx:Φ x=Rw 1 (ah (aP (mnr M 0 k) m K)) m) (hn:n<=1000) (hk:k<n) (hm:n-1=m):aj Φ Try.prog ⟨15,[.fact p,.lit (.ci .i64 0),.fact r],[oS x],false⟩:=
 aT (rR (M:=M) (K:=K) (i:=0) hn hn (by omega) hk) ⟨hp,fun _=>rfl,hr,trivial⟩ ⟨⟨rfl,⟨rfl,rfl,fun _ _ h=>by rw [hx];have h':aE _ (aP (mnr M 0 k) (n-1) K) (dcr 0 n) _ _:=h;rw [nA (show 0<n by omega),hm] at h';exact aE.rw h'⟩,trivial⟩,trivial⟩
end
def Nh (M:Nat->Nat->List Int) (K:Nat):List WP:=[Rw 1 (ah (aP M 0 K)) 0,Nz 0,Ni (1),fun w v=>Rw 1 (fun i _ v=>v = .agg #[.int .i64 (ae [1] i)]) 1 w v,fun w v=>Rw 4 (fun ι w v=>am w v ((((ae ([1])) ι:Int):Rat)) 6) 1 w v]
def Nj:List Step:=[bQ [.fact 0] [oN 1] (aD 25),
   bQ [.fact 1,.lit (.ci .i64 0)] oT (ai .eql),
   .derive (.one (.ci .i64 1)) (.one (.lit (.ci .i64 1))) [] 2,
   .base ⟨0,[.any,.fact 2],[oS 3],.fresh [] (du 58 1)⟩,
   .base ⟨28,[.fact 3],[oS 4],false⟩]
def Nk:List Out:=[oS 0]
theorem Nl {M:Nat->Nat->List Int}{K:Nat}  : aj (ph (Nh M K)) Try.prog ⟨13,[.fact 0],[oS 4],false⟩:=by
 skip
 exact aR Nk [oS 4] Nj Try.func13 (by kernel_rfl)
  (lB (aG (F:=(ah (aP M 0 K))) Try.underlying25 aa rfl)
   (lB (bi (op:=.eql) aa (aS (rfl) (by simp)))
   (cA (gG rfl)
   (lB (fw (ps:=[2]) (sz:=1) (n:=1) (F:=(fun i _ v=>v = .agg #[.int .i64 (ae [1] i)])) (zc:=.one (.ci .i64 0)) Try.underlying58 (by kernel_rfl) (by omega) (by kernel_rfl) (by omega) (by omega) rfl (gD aa) rfl)
   (lB (rT (z:=ae [1]) (n:=1) (L:=[1]) aa rfl (by omega) (gC (by decide)) (by decide))
   aA)))))
  (aJ [.fact 0 (.one (.s))] ⟨Rw.Is 1 (ah (aP M 0 K)) 0,trivial⟩) bg
def nD (M:Nat->Nat->List Int) (n K _k:Nat):List WP:=[Rw 1 (ah (aP M (n+1) K)) (n+1),Nz (n+1),Nz (n+1),fun w v=>Rw 4 (fun ι w v=>am w v ((((ae (KS (M 0) (fun k=>an n (mnr M 0 k)) (n+1))) ι:Int):Rat)) 2000) (KS (M 0) (fun k=>an n (mnr M 0 k)) (n+1)).length w v]
def Ac (M:Nat->Nat->List Int) (n K _k:Nat) (j:Nat):List WP:=[Nz j,fun w v=>Rw 4 (fun ι w v=>am w v ((((ae (KS (M 0) (fun k=>an n (mnr M 0 k)) j)) ι:Int):Rat)) 2000) (KS (M 0) (fun k=>an n (mnr M 0 k)) j).length w v,Ptr 1 (ah (aP M (n+1) K) 0),Rw 1 (ah (bp (M 0) K)) (n+1),Ptr 1 (ah (bp (M 0) K) j),fun w v=>Rw 4 (fun ι w v=>am w v ((((ae ((M 0) j)) ι:Int):Rat)) K) (((M 0) j).length) w v,Rw 1 (ah (aP (mnr M 0 j) n K)) n,fun w v=>Rw 4 (fun ι w v=>am w v ((((ae (an n (mnr M 0 j))) ι:Int):Rat)) 2000) ((an n (mnr M 0 j)).length) w v,fun w v=>Rw 4 (fun ι w v=>am w v ((((ae (aK ((M 0) j) (an n (mnr M 0 j)))) ι:Int):Rat)) 2000) ((aK ((M 0) j) (an n (mnr M 0 j))).length) w v,Ni (Int.tmod ((j:Nat):Int) 2),fun w v=>Rw 4 (fun ι w v=>am w v ((((ae (bK (aK ((M 0) j) (an n (mnr M 0 j))))) ι:Int):Rat)) 2000) ((bK (aK ((M 0) j) (an n (mnr M 0 j)))).length) w v,fun w v=>Rw 4 (fun ι w v=>am w v ((((ae (bo (KS (M 0) (fun k=>an n (mnr M 0 k)) j) (bK (aK ((M 0) j) (an n (mnr M 0 j)))))) ι:Int):Rat)) 2000) ((bo (KS (M 0) (fun k=>an n (mnr M 0 k)) j) (bK (aK ((M 0) j) (an n (mnr M 0 j))))).length) w v,Nz (j+1),Ptr 1 (ah (aP M (n+1) K) 0),Rw 1 (ah (bp (M 0) K)) (n+1),Ptr 1 (ah (bp (M 0) K) j),fun w v=>Rw 4 (fun ι w v=>am w v ((((ae ((M 0) j)) ι:Int):Rat)) K) (((M 0) j).length) w v,Rw 1 (ah (aP (mnr M 0 j) n K)) n,fun w v=>Rw 4 (fun ι w v=>am w v ((((ae (an n (mnr M 0 j))) ι:Int):Rat)) 2000) ((an n (mnr M 0 j)).length) w v,fun w v=>Rw 4 (fun ι w v=>am w v ((((ae (aK ((M 0) j) (an n (mnr M 0 j)))) ι:Int):Rat)) 2000) ((aK ((M 0) j) (an n (mnr M 0 j))).length) w v,Ni (Int.tmod ((j:Nat):Int) 2),fun w v=>Rw 4 (fun ι w v=>am w v ((((ae (bo (KS (M 0) (fun k=>an n (mnr M 0 k)) j) (aK ((M 0) j) (an n (mnr M 0 j))))) ι:Int):Rat)) 2000) ((bo (KS (M 0) (fun k=>an n (mnr M 0 k)) j) (aK ((M 0) j) (an n (mnr M 0 j)))).length) w v,Nz (j+1)]
def rU:bf:=⟨[0,2,6,7,8,11,12],[(.slot 13,.i),(.slot 3,.s)],[(.one 0,4),(.one 1,5)],[.closed (.one (.ci .i64 0)),.closed (.one (.nl))],4,[(5,3)]⟩
def rV:List Step:=[bQ [.fact 4,.fact 2] oT (ai .lss),
   bQ [.fact 0,.lit (.ci .i64 0)] [oP 6] (aI 25),
   bQ [.fact 6] [oS 7] (aL 42),
   bQ [.fact 7,.fact 4] [oP 8] (aI 42),
   bQ [.fact 8] [oS 9] (aL 36),
   .base ⟨15,[.fact 0,.lit (.ci .i64 0),.fact 4],[oS 10],false⟩,
   .base ⟨13,[.fact 10],[oS 11],false⟩,
   .base ⟨32,[.fact 9,.fact 11],[oS 12],false⟩,
   bQ [.fact 4,.lit (.ci .i64 2)] [oN 13] (dY),
   bQ [.fact 13,.lit (.ci .i64 1)] oT (ai .eql),
   .base ⟨33,[.fact 12],[oS 14],false⟩,
   .base ⟨34,[.fact 5,.fact 14],[oS 15],false⟩,
   bQ [.fact 4,.lit (.ci .i64 1)] [oN 16] (ai .add)]
def rW:List Step:=[bQ [.fact 4,.fact 2] oT (ai .lss),
   bQ [.fact 0,.lit (.ci .i64 0)] [oP 17] (aI 25),
   bQ [.fact 17] [oS 18] (aL 42),
   bQ [.fact 18,.fact 4] [oP 19] (aI 42),
   bQ [.fact 19] [oS 20] (aL 36),
   .base ⟨15,[.fact 0,.lit (.ci .i64 0),.fact 4],[oS 21],false⟩,
   .base ⟨13,[.fact 21],[oS 22],false⟩,
   .base ⟨32,[.fact 20,.fact 22],[oS 23],false⟩,
   bQ [.fact 4,.lit (.ci .i64 2)] [oN 24] (dY),
   bQ [.fact 24,.lit (.ci .i64 1)] oF (ai .eql),
   .base ⟨34,[.fact 5,.fact 23],[oS 25],false⟩,
   bQ [.fact 4,.lit (.ci .i64 1)] [oN 26] (ai .add)]
def Ad:List Step:=[bQ [.fact 4,.fact 2] oF (ai .lss)]
def Ae:List Step:=[bQ [.fact 0] [oN 1] (aD 25),
   bQ [.fact 1,.lit (.ci .i64 0)] oF (ai .eql),
   bQ [.fact 0] [oN 2] (aD 25),
   .loop rU [(rV,[.frm 16,.frm 15]),(rW,[.frm 26,.frm 25])] Ad]
def Af:List Out:=[oS 0]
theorem Ag {M:Nat->Nat->List Int}{n K c k:Nat} (ih:∀{Φ:PH}{p x:Nat} (M':Nat->Nat->List Int),(∀w v,Φ p w v->Rw 1 (ah (aP M' n K)) n w v)->(Φ x=fun w v=>Rw 4 (fun ι w v=>am w v ((ae (an n M') ι:Int):Rat) 2000) (an n M').length w v)->(∀i j,i<n->j<n->EOk c k (M' i j))->aj Φ Try.prog ⟨13,[.fact p],[oS x],false⟩) (hn:n<=3) (hK:K<=2000) (hc:c<=100) (_hk:k<=100) (hM:∀i j,i<n+1->j<n+1->EOk c k (M i j)) (hbd:bD c k n+k+c+(n+1)+1<=2000):aj (ph (nD M n K k)) Try.prog ⟨13,[.fact 0],[oS 3],false⟩:=by
 have hm':∀j,j<n+1->∀i l,i<n->l<n->EOk c k (mnr M 0 j i l):=fun j hj i l hi hl=>hM _ _ (by unfold ab;split <;> omega) (by unfold ab;split <;> omega)
 have hd:∀j,j<n+1->EOk (n*c+1) (bD c k n) (an n (mnr M 0 j)):=fun j hj=>fU n _ (hm' j hj)
 have hnc:n*c<=3*100:=Nat.mul_le_mul hn hc
 have hX:∀j,j<n+1->EOk (c+(n*c+1)) (k+bD c k n+c) (aK (M 0 j) (an n (mnr M 0 j))):=fun j hj=>(hM 0 j (by omega) hj).mul (hd j hj)
 have hs:∀j,j<=n+1->EOk (c+(n*c+1)) (k+bD c k n+c+j) (KS (M 0) (fun k=>an n (mnr M 0 k)) j):=LM (fun j hj=>hM 0 j (by omega) hj) hd
 exact aR Af [oS 3] Ae Try.func13 (by kernel_rfl)
  (lB (aG (F:=(ah (aP M (n+1) K))) Try.underlying25 aa rfl)
   (lB (bi (op:=.eql) aa (aS (decide_eq_false (p:=(((n+1:Nat):Int)=(0:Int))) (by omega)) (by simp)))
   (lB (aG (F:=(ah (aP M (n+1) K))) Try.underlying25 aa rfl)
   (bI (counted (n+1) (fun j=>ph (nD M n K k ++ Ac M n K k j)) (fun j=>if j % 2=1 then 0 else 1) (fun j p hp=>bJ (show p<(nD M n K k).length from hp)) ⟨fun _=>rfl,fun w=>Rw.nil 4 (fun ι w v=>am w v ((((ae (KS (M 0) (fun k=>an n (mnr M 0 k)) 0)) ι:Int):Rat)) 2000) w,trivial⟩ (fun j hj=>by
   skip
   by_cases hcj:j % 2=1
   ·skip
    exact ⟨(rV,[.frm 16,.frm 15]),by rw [if_pos hcj];rfl,⟨aa,fun w v h=>show Rw 4 (fun ι w v=>am w v ((((ae (KS (M 0) (fun k=>an n (mnr M 0 k)) (j+1))) ι:Int):Rat)) 2000) (KS (M 0) (fun k=>an n (mnr M 0 k)) (j+1)).length w v by rw [KS,Le,if_pos hcj];exact h,trivial⟩,(lB (bm aa aa)
   (lB (fW 0 (sz:=1) (n:=(n+1)) (F:=(ah (aP M (n+1) K))) Try.underlying25 (by kernel_rfl) (fun _ _ h=>Rw.arr h) rfl (by omega) rfl)
   (lB (KU (G:=Rw 1 (ah (bp (M 0) K)) (n+1)) (by kernel_rfl) aa (fun _ _ h=>bO h) rfl)
   (lB (bc (i:=j) (F:=(ah (bp (M 0) K))) Try.underlying42 (by kernel_rfl) aa aa (by omega) rfl)
   (lB (KU (G:=fun w v=>Rw 4 (fun ι w v=>am w v ((((ae ((M 0) j)) ι:Int):Rat)) K) (((M 0) j).length) w v) (by kernel_rfl) aa (fun _ _ h=>bO h) rfl)
   (lB (rS (n:=n+1) (M:=M) (k:=j) aa aa rfl (by omega) (by omega) rfl)
   (lB (ih (mnr M 0 j) aa rfl (hm' j hj))
   (lB (qX (A:=((M 0) j)) (B:=(an n (mnr M 0 j))) (k:=K) (l:=2000) (K:=2000) aa aa rfl (by omega) (by omega) (by omega) (by omega) (by omega) (hM 0 j (by omega) hj) (hd j hj) (by omega))
   (lB (eB aa (by decide) rfl)
   (lB (bi (op:=.eql) aa (aS (decide_eq_true (by have:=Int.tmod_eq_emod_of_nonneg (a:=(j:Int)) (b:=2) (by omega);omega)) (by simp)))
   (lB (yn (A:=(aK ((M 0) j) (an n (mnr M 0 j)))) (k:=2000) aa rfl (by have:=(hX j hj).len;omega) (by omega) (by omega) (hX j hj).nrm (fun i=>((hX j hj).bd i).more (by omega)))
   (lB (qW (A:=(KS (M 0) (fun k=>an n (mnr M 0 k)) j)) (B:=(bK (aK ((M 0) j) (an n (mnr M 0 j))))) (k:=2000) (l:=2000) (K:=2000) aa aa rfl (by have:=(hs j (by omega)).len;omega) (by have:=(hX j hj).neg.len;omega) (by omega) (by omega) (by omega) (by omega) (by omega) (by omega) (fun i=>by have:=((hs (j+1) (by omega)).bd i).more (show _<=2000 by omega);rw [KS,Le,if_pos hcj] at this;exact this))
   (lB (bt aa (by omega) rfl (by omega) (by omega))
   aA)))))))))))))⟩
   ·skip
    exact ⟨(rW,[.frm 26,.frm 25]),by rw [if_neg hcj];rfl,⟨aa,fun w v h=>show Rw 4 (fun ι w v=>am w v ((((ae (KS (M 0) (fun k=>an n (mnr M 0 k)) (j+1))) ι:Int):Rat)) 2000) (KS (M 0) (fun k=>an n (mnr M 0 k)) (j+1)).length w v by rw [KS,Le,if_neg hcj];exact h,trivial⟩,(lB (bm aa aa)
   (lB (fW 0 (sz:=1) (n:=(n+1)) (F:=(ah (aP M (n+1) K))) Try.underlying25 (by kernel_rfl) (fun _ _ h=>Rw.arr h) rfl (by omega) rfl)
   (lB (KU (G:=Rw 1 (ah (bp (M 0) K)) (n+1)) (by kernel_rfl) aa (fun _ _ h=>bO h) rfl)
   (lB (bc (i:=j) (F:=(ah (bp (M 0) K))) Try.underlying42 (by kernel_rfl) aa aa (by omega) rfl)
   (lB (KU (G:=fun w v=>Rw 4 (fun ι w v=>am w v ((((ae ((M 0) j)) ι:Int):Rat)) K) (((M 0) j).length) w v) (by kernel_rfl) aa (fun _ _ h=>bO h) rfl)
   (lB (rS (n:=n+1) (M:=M) (k:=j) aa aa rfl (by omega) (by omega) rfl)
   (lB (ih (mnr M 0 j) aa rfl (hm' j hj))
   (lB (qX (A:=((M 0) j)) (B:=(an n (mnr M 0 j))) (k:=K) (l:=2000) (K:=2000) aa aa rfl (by omega) (by omega) (by omega) (by omega) (by omega) (hM 0 j (by omega) hj) (hd j hj) (by omega))
   (lB (eB aa (by decide) rfl)
   (lB (bi (op:=.eql) aa (aS (decide_eq_false (by have:=Int.tmod_eq_emod_of_nonneg (a:=(j:Int)) (b:=2) (by omega);omega)) (by simp)))
   (lB (qW (A:=(KS (M 0) (fun k=>an n (mnr M 0 k)) j)) (B:=(aK ((M 0) j) (an n (mnr M 0 j)))) (k:=2000) (l:=2000) (K:=2000) aa aa rfl (by have:=(hs j (by omega)).len;omega) (by have:=(hX j hj).len;omega) (by omega) (by omega) (by omega) (by omega) (by omega) (by omega) (fun i=>by have:=((hs (j+1) (by omega)).bd i).more (show _<=2000 by omega);rw [KS,Le,if_neg hcj] at this;exact this))
   (lB (bt aa (by omega) rfl (by omega) (by omega))
   aA))))))))))))⟩
)
   (lB (tlF aa aa)
   aA)
   (fun q hq w v h=>by
    simp only [rU,List.mem_cons,List.not_mem_nil,or_false] at hq
    rcases hq with rfl
    ·exact (fun h=>h) h)) aA))))
  (aJ [.fact 0 (.one (.s))] ⟨Rw.Is 1 (ah (aP M (n+1) K)) (n+1),trivial⟩) bg
theorem lh {c k:Nat} (hc:c<=100) (hk:k<=100):∀n,n<=4->bD c k n<=1+210*n
 | 0,_=>Nat.le_refl 1
 | n+1,h=>by
  have:=lh hc hk n (by omega)
  rw [bD]
  omega
theorem lp {K c k:Nat} (hK:K<=2000) (hc:c<=100) (hk:k<=100):∀n,n<=4->∀{Φ:PH}{p x:Nat} (M:Nat->Nat->List Int),(∀w v,Φ p w v->Rw 1 (ah (aP M n K)) n w v)->(Φ x=fun w v=>Rw 4 (fun ι w v=>am w v ((ae (an n M) ι:Int):Rat) 2000) (an n M).length w v)->(∀i j,i<n->j<n->EOk c k (M i j))->aj Φ Try.prog ⟨13,[.fact p],[oS x],false⟩
 | 0,_,Φ,p,x,M,hp,hx,_=>aT (Nl (M:=M) (K:=K)) ⟨hp,trivial⟩ ⟨⟨rfl,⟨rfl,rfl,fun w v h=>by
   rw [hx]
   exact Rw.to (sz:=4) (n:=1) (F:=fun ι w v=>am w v ((ae [1] ι:Int):Rat) 6) h fun i w v _ h=>h.more (by omega)⟩,trivial⟩,trivial⟩
 | n+1,hn,Φ,p,x,M,hp,hx,hM=>aT (Ag (M:=M) (n:=n) (K:=K) (c:=c) (k:=k) (fun M' h1 h2 h3=>lp hK hc hk n (by omega) M' h1 h2 h3) (by omega) hK hc hk hM (by have:=lh hc hk n (by omega);omega)) ⟨hp,trivial⟩ ⟨⟨rfl,⟨rfl,rfl,fun _ _ h=>hx▸h⟩,trivial⟩,trivial⟩
def aH (z:Nat->Nat->Int) (ln:Nat->Nat) (K k:Nat) (w:World) (v:Value):Prop:=Rw 2 (If (z k) K) (ln k) w v
def aw (z:Nat->Nat->Nat->Int) (ln:Nat->Nat->Nat) (m K i:Nat) (w:World) (v:Value):Prop:=Rw 1 (ah (aH (z i) (ln i) K)) m w v
def bF (al:Nat->Nat->Bool) (xl:Nat->Nat->List Nat) (ml:Nat->Nat) (i:Nat) (w:World) (v:Value):Prop:=∃s,v = .agg #[s]∧Rw 2 (fun j w v=>KR w v (al i j) (xl i j)) (ml i) w s
theorem slI (z:Nat->Nat->Int) (ln:Nat->Nat) (K k:Nat) (w:World) (s:Value) (h:aH z ln K k w s):∃p n c,s = .slice p n c:=bO h
theorem iG (z:Nat->Nat->Nat->Int) (ln:Nat->Nat->Nat) (m K i:Nat) (w:World) (s:Value) (h:aw z ln m K i w s):∃p n c,s = .slice p n c:=bO h
theorem iH (z:Nat->Nat->Int) (ln:Nat->Nat) (K k:Nat):cg (aH z ln K k):=rE (z0:=.slice none 0 0) (fun _ _ _ _ g h=>aB.kp h g) fun i w l h hl=>by
 obtain ⟨b,s,X,e,-⟩:=h
 obtain rfl:l = [.bool b,s]:=by simpa using e
 exact ⟨_,rfl,fun h=>by (cases h),fun _ _ h=>by cases h⟩
theorem eN (z:Nat->Nat->Nat->Int) (ln:Nat->Nat->Nat) (m K i:Nat):cg (aw z ln m K i):=rG (slI _ _ _) (iH _ _ _)
theorem rY {P:Program}{Φ:PH}{f x y i:Nat}{ls:List Arg}{F:PH} (h:aj Φ P ⟨f,ls,[oS x],false⟩) (hy:Φ y=ah F i) (hF:∀w v,Φ x w v->F i w v):aj Φ P ⟨f,ls,[⟨.one .s,[(0,0,x),(0,2,y)]⟩],false⟩:=fun X w vs hX ha=>(h X w vs hX ha).mono fun e w' ⟨g,us,he,ho⟩=>⟨g,us,he,by
 match us,ho with
 | [u],⟨⟨h3,h4⟩,h5⟩=>
  refine ⟨⟨h3,fun q hq w1 hw=>?_⟩,h5⟩
  simp only [List.mem_cons,List.not_mem_nil,or_false] at hq
  rcases hq with rfl | rfl
  ·exact h4 _ (List.mem_singleton.2 rfl) w1 hw
  ·obtain ⟨⟨p,n,c,rfl⟩,-⟩:=h3
   show Φ y w1 _
   rw [hy]
   exact ⟨_,rfl,hF _ _ (h4 (0,0,x) (List.mem_singleton.2 rfl) w1 hw)⟩⟩
theorem Ai {Φ:PH}{x:Nat}{a:Atom}{G:WP} (hx:Φ x=G) (h:∀w,G w (a.ev bL)) (X:Nat->Prop) (w:World) (v:Value) (hv:(Arg.parts (.one (.lit a)) []).ok Φ X w v):(Arg.fact x).ok Φ X w v:=fun w1 _=>by
 rw [hx]
 obtain ⟨h1,-⟩:=hv
 obtain rfl:v=a.ev bL:=h1.1
 exact h w1
theorem Aj {Φ:PH}{x i:Nat}{a:Atom}{F:PH} (hx:Φ x=ah F i) (h:∀w,F i w (a.ev bL)) (X:Nat->Prop) (w:World) (v:Value) (hv:(Arg.parts (.agg [.lit a]) []).ok Φ X w v):(Arg.fact x).ok Φ X w v:=fun w1 _=>by
 rw [hx]
 obtain ⟨⟨vs,rfl,h1⟩,-⟩:=hv
 match vs,h1 with
 | [s],h1=>exact ⟨s,rfl,by rw [show s=a.ev bL from h1.1];exact h w1⟩
section
variable {Φ:PH}{p x n0 n:Nat}{z:Nat->Int}
theorem Ak {a:Nat->Bool}{xs:Nat->List Nat}{Ki mi:Int} (K m:Nat) (hKi:(K:Int)=Ki) (hmi:(m:Int)=mi) (hp:∀w v,Φ p w v->Rw 2 (fun i w v=>KR w v (a i) (xs i)) n0 w v) (hx:Φ x=fun w v=>Rw 2 (fun i w v=>KI w v (a i) ((xs i).take m) (z i) m) n w v) (hn:n0<=9223372036854775807) (hKm:K<=1000000) (hz:∀j,sg (a j) (Proofs.Ytomamliepbhegaa.val 4294967296 ((xs j).take m))=z j) (hN:min n0 K=n) :
  aj Φ Try.prog ⟨17,[.fact p,.lit (.ci .i64 Ki),.lit (.ci .i64 mi)],[oS x],false⟩:=
 aT (Am (Φ:=ph [fun w v=>Rw 2 (fun i w v=>KR w v (a i) (xs i)) n0 w v,Ni (K:Int),Ni (m:Int),fun w v=>Rw 2 (fun i w v=>KI w v (a i) ((xs i).take m) (z i) m) n w v]) (p:=0) (q:=1) (r:=2) (x:=3) K m (fun _ _ h=>h) (fun _ _ h=>h) (fun _ _ h=>h) rfl hn hKm hz hN) ⟨hp,fun _=>by rw [<- hKi];rfl,fun _=>by rw [<- hmi];rfl,trivial⟩ ⟨⟨rfl,⟨rfl,rfl,fun _ _ h=>hx▸h⟩,trivial⟩,trivial⟩
end
def jL (al:Nat->Nat->Bool) (xl:Nat->Nat->List Nat) (ml:Nat->Nat) (z:Nat->Nat->Int) (ln:Nat->Nat) (nl n m:Nat):List WP:=[Rw 1 (bF al xl ml) nl,Nz n,Nz m,aE 22 (aw (fun i k=>z (m*i+k)) (fun i k=>ln (m*i+k)) m 1) n,aE 42 (aP (fun i k=>(ad (mk (ln (m*i+k)) (z (m*i+k))))) m (1+2+2)) n]
def An (al:Nat->Nat->Bool) (xl:Nat->Nat->List Nat) (ml:Nat->Nat) (z:Nat->Nat->Int) (ln:Nat->Nat) (nl m:Nat) (i k:Nat):List WP:=[Nz k,aE 29 (aH (fun k=>z (m*i+k)) (fun k=>ln (m*i+k)) 1) k,fun _ _=>True,aE 36 (bp (fun k=>(ad (mk (ln (m*i+k)) (z (m*i+k))))) (1+2+2)) k,fun _ _=>True,Ni ((m*i:Nat):Int),Ni ((m*i+k:Nat):Int),Nz nl,Ni ((m*i:Nat):Int),Ni ((m*i+k:Nat):Int),Ptr 1 (bF al xl ml (m*i+k)),fun w v=>Rw 2 (fun ι w v=>KR w v (al (m*i+k) ι) (xl (m*i+k) ι)) (ml (m*i+k)) w v,fun w v=>Rw 2 (fun ι w v=>KI w v ((al (m*i+k)) ι) ((fun ι=>(xl (m*i+k) ι).take 1) ι) ((z (m*i+k)) ι) 1) (ln (m*i+k)) w v,ah (aH (fun k=>z (m*i+k)) (fun k=>ln (m*i+k)) 1) k,aE 29 (aH (fun k=>z (m*i+k)) (fun k=>ln (m*i+k)) 1) (k+1),fun w v=>Rw 4 (fun ι w v=>am w v ((((ae (ad (mk (ln (m*i+k)) (z (m*i+k))))) ι:Int):Rat)) (1+2+2)) ((ad (mk (ln (m*i+k)) (z (m*i+k)))).length) w v,ah (bp (fun k=>(ad (mk (ln (m*i+k)) (z (m*i+k))))) (1+2+2)) k,aE 36 (bp (fun k=>(ad (mk (ln (m*i+k)) (z (m*i+k))))) (1+2+2)) (k+1),Nz (k+1),Ni ((m*i:Nat):Int),Ni ((m*i+k:Nat):Int),Nz nl,fun w v=>Rw 2 (fun ι w v=>aB w v (z (m*i+k) ι) 1) (ln (m*i+k)) w v,ah (aH (fun k=>z (m*i+k)) (fun k=>ln (m*i+k)) 1) k,aE 29 (aH (fun k=>z (m*i+k)) (fun k=>ln (m*i+k)) 1) (k+1),fun w v=>Rw 4 (fun ι w v=>am w v ((((ae (ad (mk (ln (m*i+k)) (z (m*i+k))))) ι:Int):Rat)) (1+2+2)) ((ad (mk (ln (m*i+k)) (z (m*i+k)))).length) w v,ah (bp (fun k=>(ad (mk (ln (m*i+k)) (z (m*i+k))))) (1+2+2)) k,aE 36 (bp (fun k=>(ad (mk (ln (m*i+k)) (z (m*i+k))))) (1+2+2)) (k+1),Nz (k+1)]
def rZ:bf:=⟨[0,1,2,6,7,8,9,10,15,16,17],[(.slot 13,.i),(.slot 11,.s),(.slot 12,.s)],[(.one 0,17),(.one 1,.bT [2] 18),(.one 1,.lo 2),(.one 2,.bT [3] 20),(.one 2,.lo 3)],[.closed (.one (.ci .i64 0)),.closed (.one (.nl)),.frm 0,.closed (.one (.nl)),.frm 0],17,[(18,10),(20,11)]⟩
def My:List Step:=[bQ [.fact 17,.fact 2] oT (ai .lss),
   bQ [.fact 2,.fact 5] [oN 22] (ai .mul),
   bQ [.fact 22,.fact 17] [oN 23] (ai .add),
   bQ [.fact 0] [oN 24] (aD 22),
   bQ [.fact 23,.fact 24] oT (ai .lss),
   bQ [.fact 2,.fact 5] [oN 25] (ai .mul),
   bQ [.fact 25,.fact 17] [oN 26] (ai .add),
   bQ [.fact 0,.fact 26] [oP 27] (aI 22),
   bQ [.fact 27] [oS 28] (aL 29),
   .base ⟨17,[.fact 28,.lit (.ci .i64 3),.lit (.ci .i64 1)],[oS 29],false⟩,
   .derive (.agg [.s 34 0]) (.agg [.s]) [(0,1,29)] 30,
   .base ⟨0,[.fact 18,.row 1 [30]],[oS 31],.loose [] 2 0 (cf 22 22)⟩,
   .base ⟨23,[.fact 29],[⟨.one (.s),[(0,0,32),(0,2,33)]⟩],false⟩,
   .base ⟨0,[.fact 20,.row 1 [33]],[oS 34],.loose [] 3 0 (cf 42 42)⟩,
   bQ [.fact 17,.lit (.ci .i64 1)] [oN 35] (ai .add)]
def Mz:List Step:=[bQ [.fact 17,.fact 2] oT (ai .lss),
   bQ [.fact 2,.fact 5] [oN 36] (ai .mul),
   bQ [.fact 36,.fact 17] [oN 37] (ai .add),
   bQ [.fact 0] [oN 38] (aD 22),
   bQ [.fact 37,.fact 38] oF (ai .lss),
   .derive (.one (.nl)) (.one (.lit (.nl))) [] 39,
   .derive (.agg [.nl]) (.agg [.lit (.nl)]) [] 40,
   .base ⟨0,[.fact 18,.row 1 [40]],[oS 41],.loose [] 2 0 (cf 22 22)⟩,
   .base ⟨23,[.fact 39],[⟨.one (.s),[(0,0,42),(0,2,43)]⟩],false⟩,
   .base ⟨0,[.fact 20,.row 1 [43]],[oS 44],.loose [] 3 0 (cf 42 42)⟩,
   bQ [.fact 17,.lit (.ci .i64 1)] [oN 45] (ai .add)]
def Ao:List Step:=[bQ [.fact 17,.fact 2] oF (ai .lss)]
def nE (z:Nat->Nat->Int) (ln:Nat->Nat) (m:Nat) (i:Nat):List WP:=[Nz i,aE 22 (aw (fun i k=>z (m*i+k)) (fun i k=>ln (m*i+k)) m 1) i,fun _ _=>True,aE 42 (aP (fun i k=>(ad (mk (ln (m*i+k)) (z (m*i+k))))) m (1+2+2)) i,fun _ _=>True,aE 29 (aH (fun k=>z (m*i+k)) (fun k=>ln (m*i+k)) 1) m,aE 36 (bp (fun k=>(ad (mk (ln (m*i+k)) (z (m*i+k))))) (1+2+2)) m,ah (aw (fun i k=>z (m*i+k)) (fun i k=>ln (m*i+k)) m 1) i,aE 22 (aw (fun i k=>z (m*i+k)) (fun i k=>ln (m*i+k)) m 1) (i+1),ah (aP (fun i k=>(ad (mk (ln (m*i+k)) (z (m*i+k))))) m (1+2+2)) i,aE 42 (aP (fun i k=>(ad (mk (ln (m*i+k)) (z (m*i+k))))) m (1+2+2)) (i+1),Nz (i+1)]
def MA:bf:=⟨[0,1,2,6,7],[(.slot 10,.i),(.slot 8,.s),(.slot 9,.s)],[(.one 0,5),(.one 1,.bT [1] 6),(.one 1,.lo 1),(.one 2,.bT [4] 8),(.one 2,.lo 4)],[.closed (.one (.ci .i64 0)),.closed (.one (.nl)),.frm 0,.closed (.one (.nl)),.frm 0],5,[(6,3),(8,4)]⟩
def MB:List Step:=[bQ [.fact 5,.fact 1] oT (ai .lss),
   .loop rZ [(My,[.frm 35,.frm 31,.frm 0,.frm 34,.frm 0]),(Mz,[.frm 45,.frm 41,.frm 0,.frm 44,.frm 0])] Ao,
   .shut 2,
   .derive (.agg [.s 13 1]) (.agg [.s]) [(0,1,10)] 12,
   .shut 3,
   .derive (.agg [.s 13 2]) (.agg [.s]) [(0,1,11)] 14,
   .base ⟨0,[.fact 6,.row 1 [12]],[oS 13],.loose [] 1 0 (cf 24 24)⟩,
   .base ⟨0,[.fact 8,.row 1 [14]],[oS 15],.loose [] 4 0 (cf 25 25)⟩,
   bQ [.fact 5,.lit (.ci .i64 1)] [oN 16] (ai .add)]
def Ap:List Step:=[bQ [.fact 5,.fact 1] oF (ai .lss)]
def Aq:List Step:=[.loop MA [(MB,[.frm 16,.frm 13,.frm 0,.frm 15,.frm 0])] Ap]
def Ar:List Out:=[oS 0,oN 1,oN 2]
theorem As {al:Nat->Nat->Bool}{xl:Nat->Nat->List Nat}{ml:Nat->Nat}{z:Nat->Nat->Int}{ln:Nat->Nat}{nl n m:Nat} (hn:n<=6) (hm:m<=6) (hnl:nl<=9223372036854775807) (hml:∀q,ml q<=9223372036854775807) (hz:∀q j,sg (al q j) (Proofs.Ytomamliepbhegaa.val 4294967296 ((xl q j).take 1))=z q j) (hN:∀q,q<nl->min (ml q) 3=ln q) (hN0:∀q,¬q<nl->ln q=0) (hln:∀q,ln q<=1000000):aj (ph (jL al xl ml z ln nl n m)) Try.prog ⟨9,[.fact 0,.fact 1,.fact 2],[oS 3,oS 4],true⟩:=by
 skip
 exact aR Ar [oS 3,oS 4] Aq Try.func9 (by kernel_rfl)
  (bI (counted n (fun i=>ph (jL al xl ml z ln nl n m ++ nE z ln m i)) (fun _=>0) (fun i p hp=>bJ (show p<(jL al xl ml z ln nl n m).length from hp)) ⟨fun _=>rfl,fun w=>aE.nil 22 (aw (fun i k=>z (m*i+k)) (fun i k=>ln (m*i+k)) m 1) w,aW,fun w=>aE.nil 42 (aP (fun i k=>(ad (mk (ln (m*i+k)) (z (m*i+k))))) m (1+2+2)) w,aW,trivial⟩ (fun i hi=>by
   skip
   exact ⟨(MB,[.frm 16,.frm 13,.frm 0,.frm 15,.frm 0]),rfl,⟨aa,aa,aW,aa,aW,trivial⟩,(lB (bm aa aa)
   (bI (counted m (fun k=>ph ((jL al xl ml z ln nl n m ++ nE z ln m i) ++ An al xl ml z ln nl m i k)) (fun k=>if m*i+k<nl then 0 else 1) (fun k p hp=>bJ (show p<(jL al xl ml z ln nl n m ++ nE z ln m i).length from hp)) ⟨fun _=>rfl,fun w=>aE.nil 29 (aH (fun k=>z (m*i+k)) (fun k=>ln (m*i+k)) 1) w,aW,fun w=>aE.nil 36 (bp (fun k=>(ad (mk (ln (m*i+k)) (z (m*i+k))))) (1+2+2)) w,aW,trivial⟩ (fun k hk=>by
   have hmi:m*i<=6*6:=Nat.mul_le_mul hm (by omega)
   by_cases hck:m*i+k<nl
   ·have hcase:=hck
    exact ⟨(My,[.frm 35,.frm 31,.frm 0,.frm 34,.frm 0]),by rw [if_pos hck];rfl,⟨aa,aa,aW,aa,aW,trivial⟩,(lB (bm aa aa)
   (lB (nF aa aa ((Int.natCast_mul m i).symm) rfl (by omega) (by omega))
   (lB (cS aa aa (by omega) rfl (by omega) (by omega))
   (lB (aG (F:=(bF al xl ml)) Try.underlying22 aa rfl)
   (lB (bm aa aa)
   (lB (nF aa aa ((Int.natCast_mul m i).symm) rfl (by omega) (by omega))
   (lB (cS aa aa (by omega) rfl (by omega) (by omega))
   (lB (bc (i:=(m*i+k)) (F:=(bF al xl ml)) Try.underlying22 (by kernel_rfl) aa aa (by omega) rfl)
   (lB (KU (G:=fun w v=>Rw 2 (fun ι w v=>KR w v (al (m*i+k) ι) (xl (m*i+k) ι)) (ml (m*i+k)) w v) (by kernel_rfl) aa (fun _ _ h=>bO h) rfl)
   (lB (Ak (a:=al (m*i+k)) (xs:=xl (m*i+k)) (z:=z (m*i+k)) (n:=ln (m*i+k)) 3 1 rfl rfl aa rfl (hml _) (by omega) (hz _) (hN _ hcase))
   (cA (lm (F:=(aH (fun k=>z (m*i+k)) (fun k=>ln (m*i+k)) 1)) (i:=k) rfl (fun _ _ h=>Rw.to (sz:=2) (n:=ln (m*i+k)) (F:=fun ι w v=>KI w v (al (m*i+k) ι) ((xl (m*i+k) ι).take 1) (z (m*i+k) ι) 1) h fun i w v _ h=>h.2))
   (lB (fY (n:=k) (F:=(aH (fun k=>z (m*i+k)) (fun k=>ln (m*i+k)) 1)) Try.underlying22 (by kernel_rfl) (slI _ _ _) (iH _ _ _) aa aa (by omega) rfl)
   (lB (rY (F:=(bp (fun k=>(ad (mk (ln (m*i+k)) (z (m*i+k))))) (1+2+2))) (i:=k) (MC (z:=z (m*i+k)) (n:=ln (m*i+k)) (k:=1) (L:=(ad (mk (ln (m*i+k)) (z (m*i+k))))) (Rw.To 2 (fun ι w v=>KI w v ((al (m*i+k)) ι) ((fun ι=>(xl (m*i+k) ι).take 1) ι) ((z (m*i+k)) ι) 1) (ln (m*i+k)) (fun _ _ _ _ h=>And.right h)) rfl (hln _) (by omega) rfl) rfl aa)
   (lB (fY (n:=k) (F:=(bp (fun k=>(ad (mk (ln (m*i+k)) (z (m*i+k))))) (1+2+2))) Try.underlying42 (by kernel_rfl) (lk _ _) (ll _ _) aa aa (by omega) rfl)
   (lB (bt aa (by omega) rfl (by omega) (by omega))
   aA)))))))))))))))⟩
   ·have hcase:=hck
    exact ⟨(Mz,[.frm 45,.frm 41,.frm 0,.frm 44,.frm 0]),by rw [if_neg hck];rfl,⟨aa,aa,aW,aa,aW,trivial⟩,(lB (bm aa aa)
   (lB (nF aa aa ((Int.natCast_mul m i).symm) rfl (by omega) (by omega))
   (lB (cS aa aa (by omega) rfl (by omega) (by omega))
   (lB (aG (F:=(bF al xl ml)) Try.underlying22 aa rfl)
   (lB (tlF aa aa)
   (cA (Ai (G:=fun w v=>Rw 2 (fun ι w v=>aB w v (z (m*i+k) ι) 1) (ln (m*i+k)) w v) rfl (fun w=>by rw [hN0 _ hcase];exact Rw.nil 2 _ w))
   (cA (Aj (F:=(aH (fun k=>z (m*i+k)) (fun k=>ln (m*i+k)) 1)) (i:=k) rfl (fun w=>by show Rw 2 _ (ln (m*i+k)) w _;rw [hN0 _ hcase];exact Rw.nil 2 _ w))
   (lB (fY (n:=k) (F:=(aH (fun k=>z (m*i+k)) (fun k=>ln (m*i+k)) 1)) Try.underlying22 (by kernel_rfl) (slI _ _ _) (iH _ _ _) aa aa (by omega) rfl)
   (lB (rY (F:=(bp (fun k=>(ad (mk (ln (m*i+k)) (z (m*i+k))))) (1+2+2))) (i:=k) (MC (z:=z (m*i+k)) (n:=ln (m*i+k)) (k:=1) (L:=(ad (mk (ln (m*i+k)) (z (m*i+k))))) (Rw.To 2 (fun ι w v=>aB w v ((z (m*i+k)) ι) 1) (ln (m*i+k)) (fun _ _ _ _ h=>h)) rfl (hln _) (by omega) rfl) rfl aa)
   (lB (fY (n:=k) (F:=(bp (fun k=>(ad (mk (ln (m*i+k)) (z (m*i+k))))) (1+2+2))) Try.underlying42 (by kernel_rfl) (lk _ _) (ll _ _) aa aa (by omega) rfl)
   (lB (bt aa (by omega) rfl (by omega) (by omega))
   aA)))))))))))⟩
)
   (lB (tlF aa aa)
   aA)
   (fun q hq w v h=>by
    simp only [rZ,List.mem_cons,List.not_mem_nil,or_false] at hq
    rcases hq with rfl | rfl
    ·exact (fun h=>h) h
    ·exact (fun h=>h) h)) (nC (cA (lm (F:=(aw (fun i k=>z (m*i+k)) (fun i k=>ln (m*i+k)) m 1)) (i:=i) rfl (fun _ _ h=>aE.rw h))
   (nC (cA (lm (F:=(aP (fun i k=>(ad (mk (ln (m*i+k)) (z (m*i+k))))) m (1+2+2))) (i:=i) rfl (fun _ _ h=>aE.rw h))
   (lB (fY (n:=i) (F:=(aw (fun i k=>z (m*i+k)) (fun i k=>ln (m*i+k)) m 1)) Try.underlying24 (by kernel_rfl) (iG _ _ _ _) (eN _ _ _ _) aa aa (by omega) rfl)
   (lB (fY (n:=i) (F:=(aP (fun i k=>(ad (mk (ln (m*i+k)) (z (m*i+k))))) m (1+2+2))) Try.underlying25 (by kernel_rfl) (slM _ _ _) (rF _ _ _) aa aa (by omega) rfl)
   (lB (bt aa (by omega) rfl (by omega) (by omega))
   aA)))))))))⟩)
   (lB (tlF aa aa)
   aA)
   (fun q hq w v h=>by
    simp only [MA,List.mem_cons,List.not_mem_nil,or_false] at hq
    rcases hq with rfl | rfl
    ·exact (fun h=>h) h
    ·exact (fun h=>h) h)) aA)
  (aJ [.fact 0 (.one (.s)),.fact 1 (.one (.i)),.fact 2 (.one (.i))] ⟨Rw.Is 1 (bF al xl ml) nl,fun _ _ h=>h▸aQ _,fun _ _ h=>h▸aQ _,trivial⟩) (fun _ _ _ h=>h)
section
variable {Φ:PH}{p q r x y nl n m:Nat}{al:Nat->Nat->Bool}{xl:Nat->Nat->List Nat}{ml ln:Nat->Nat}{z:Nat->Nat->Int}
theorem eh (hp:∀w v,Φ p w v->Rw 1 (bF al xl ml) nl w v) (hq:∀w v,Φ q w v->v = .int .i64 (n:Int)) (hr:∀w v,Φ r w v->v = .int .i64 (m:Int)) (hx:Φ x=Rw 1 (ah (aw (fun i k=>z (m*i+k)) (fun i k=>ln (m*i+k)) m 1)) n) (hy:Φ y=Rw 1 (ah (aP (fun i k=>ad (mk (ln (m*i+k)) (z (m*i+k)))) m 5)) n)
  (hn:n<=6) (hm:m<=6) (hnl:nl<=9223372036854775807) (hml:∀q,ml q<=9223372036854775807) (hz:∀q j,sg (al q j) (Proofs.Ytomamliepbhegaa.val 4294967296 ((xl q j).take 1))=z q j) (hN:∀q,q<nl->min (ml q) 3=ln q) (hN0:∀q,¬q<nl->ln q=0) (hln:∀q,ln q<=1000000) :
  aj Φ Try.prog ⟨9,[.fact p,.fact q,.fact r],[oS x,oS y],true⟩:=
 aT (As (n:=n) (m:=m) hn hm hnl hml hz hN hN0 hln) ⟨hp,hq,hr,trivial⟩ ⟨⟨rfl,⟨rfl,rfl,fun _ _ h=>hx▸aE.rw h⟩,trivial⟩,⟨rfl,⟨rfl,rfl,fun _ _ h=>hy▸aE.rw h⟩,trivial⟩,trivial⟩
theorem zE {f:Nat->Int}{c K l:Nat} (hl:l<=c) (hb:∀j,j<l->Bd (f j).natAbs K):EOk c K (ad (mk l f)):=by
 refine ⟨by rw [iE];exact Nat.le_trans (bC _ _) hl,Ln _,fun i=>?_⟩
 rw [fu,dt]
 split
 ·exact hb i (by assumption)
 ·exact Nat.pow_pos (by omega)
end
end Go.Proofs.Ytomamliepbhegaa.Sym
