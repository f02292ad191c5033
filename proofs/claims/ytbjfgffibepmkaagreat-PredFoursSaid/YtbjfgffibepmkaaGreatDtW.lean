/- The reference's minors a -/
import Derived.Test.YtbjfgffibepmkaaGreatDtP
import Derived.Test.YtbjfgffibepmkaaGreatCatN
set_option maxRecDepth 100000
namespace Go.Proofs.YtbjfgffibepmkaaGreat.Sym
open Go.Proofs.Tryz
open Go.RowKit
variable {K c f i k m n x y:Nat}{P:Program}{F Φ:PH}{ls:List Arg}{M:Nat->Nat->List Int}
def bS (L:Nat->List Int) (K k:Nat) (w:World) (v:Value):Prop:=Rw 4 (fun ι w v=>af w v ((ae (L k) ι:Int):Rat) K) (L k).length w v
def bg (M:Nat->Nat->List Int) (m K i:Nat) (w:World) (v:Value):Prop:=Rw 1 (aw (bS (M i) K)) m w v
theorem qh (L:Nat->List Int) (K k:Nat) (w:World) (s:Value) (h:bS L K k w s):∃p n c,s = .slice p n c:=dE h
theorem slM (M:Nat->Nat->List Int) (m K i:Nat) (w:World) (s:Value) (h:bg M m K i w s):∃p n c,s = .slice p n c:=dE h
theorem zq (L:Nat->List Int) (K k:Nat):dm (bS L K k):=xi (z0:=.bool true) (fun _ _ _ _ g h=>af.kp h g) fun i w l h hl=>by
 obtain ⟨p,n,c,b,p',n',c',b',e,-⟩:=h
 obtain rfl:l = [.slice p n c,.bool b,.slice p' n' c',.bool b']:=by simpa using e
 exact ⟨_,rfl,fun h=>by (cases h),fun _ _ h=>by cases h⟩
theorem jJ (M:Nat->Nat->List Int) (m K i:Nat):dm (bg M m K i):=xj (qh _ _) (zq _ _)
def dcr (k c:Nat):Nat:=if c<=k then c else c-1
theorem zr  (h:c=k):dcr k (c+1)=dcr k c:=by unfold dcr;split <;> split <;> omega
theorem zt  (h:¬c=k):dcr k (c+1)=dcr k c+1:=by unfold dcr;split <;> split <;> omega
theorem zu  (h:¬c=k):aG k (dcr k c)=c:=by unfold dcr aG;split <;> split <;> omega
theorem zw  (h:k<m):dcr k m=m-1:=by unfold dcr;split <;> omega
theorem zx (k c:Nat):dcr k c<=c:=by unfold dcr;split <;> omega
theorem KF {m:Op->Option (List Operand)} (h:aj Φ P ⟨f,ls,[oS x],.quiet m⟩) (hy:Φ y=aw F i) (hF:∀w v,Φ x w v->F i w v):aj Φ P ⟨f,ls,[⟨.one .s,[(0,0,x),(0,2,y)]⟩],.quiet m⟩:=fun X w a o xs hX hm ha=>by
 obtain ⟨u,w',h1,h2,⟨h3,h4⟩,h5⟩:=h X w a o xs hX hm ha
 refine ⟨u,w',h1,h2,⟨h3,fun q hq w1 hw=>?_⟩,h5⟩
 simp only [List.mem_cons,List.not_mem_nil,or_false] at hq
 rcases hq with rfl | rfl
 ·exact h4 _ (List.mem_singleton.2 rfl) w1 hw
 ·obtain ⟨⟨p,n,c,rfl⟩,-⟩:=h3
  show Φ y w1 _
  rw [hy]
  exact ⟨_,rfl,hF _ _ (h4 (0,0,x) (List.mem_singleton.2 rfl) w1 hw)⟩
theorem KG {q:Nat} (hx:Φ x=aw F i) (h:∀w v,Φ q w v->F i w v) (X:Nat->Prop) (w:World) (v:Value) (hv:(Arg.parts (.agg [.s]) [(0,1,q)]).ok Φ X w v):(Arg.fact x).ok Φ X w v:=fun w1 hw=>by
 rw [hx]
 obtain ⟨⟨vs,rfl,h1⟩,h2⟩:=hv
 match vs,h1 with
 | [s],_=>exact ⟨s,rfl,h _ _ (h2 (0,1,q) (List.mem_singleton.2 rfl) w1 hw)⟩
def nK (M:Nat->Nat->List Int) (n m K i k:Nat):List WP:=[Rw 1 (aw (bg M m K)) n,Nz i,Nz k,Nz n,aL 58 (bg (mnr M i k) (m-1) K) (dcr i n)]
def KH (M:Nat->Nat->List Int) (m K k:Nat) (r c:Nat):List WP:=[Nz c,aL 32 (bS (fun c'=>M r (aG k c')) K) (dcr k c),fun _ _=>True,Nz (c+1),Ptr 1 (aw (bg M m K) r),Rw 1 (aw (bS (M r) K)) m,Ptr 1 (aw (bS (M r) K) c),fun w v=>Rw 4 (fun ι w v=>af w v ((((ae ((M r) c)) ι:Int):Rat)) K) (((M r) c).length) w v,aw (bS (fun c'=>M r (aG k c')) K) (dcr k c),aL 32 (bS (fun c'=>M r (aG k c')) K) ((dcr k c)+1),Nz (c+1)]
def zy:bJ:=⟨[0,1,2,6,7,8,11,12,13,14,15,16,17,18,19,20,21,22,23],[(.slot 24,.i),(.slot 9,.s)],[(.one 0,16),(.one 1,.cD [2] 17),(.one 1,.lo 2)],[.closed (.one (.ci .i64 0)),.closed (.one (.nl)),.frm 0],16,[(17,12)]⟩
def zA:List Step:=[bQ [16,11] oT (au .lss),bQ [16,2] oF (au .neq),bQ [16,.lit (.ci .i64 1)] [oN 19] (au .add)]
def zB:List Step:=[bQ [16,11] oT (au .lss),bQ [16,2] oT (au .neq),bQ [0,5] [oP 20] (aN 96),bQ [20] [oS 21] (aO 58),bQ [21,16] [oP 22] (aN 58),bQ [22] [⟨.one (.s),[(0,0,23),(0,2,24)]⟩] (aO 32),.base ⟨0,[17,.row 1 [24]],[oS 25],.loose [] 2 0 (bO 58 58)⟩,bQ [16,.lit (.ci .i64 1)] [oN 26] (au .add)]
def KJ:List Step:=[bQ [16,11] oF (au .lss)]
def tv (M:Nat->Nat->List Int) (m K i k:Nat) (r:Nat):List WP:=[Nz r,aL 58 (bg (mnr M i k) (m-1) K) (dcr i r),fun _ _=>True,Nz (r+1),Ptr 1 (aw (bg M m K) r),Rw 1 (aw (bS (M r) K)) m,Nz m,aL 32 (bS (fun c'=>M r (aG k c')) K) (dcr k m),aw (bg (mnr M i k) (m-1) K) (dcr i r),aL 58 (bg (mnr M i k) (m-1) K) ((dcr i r)+1),Nz (r+1)]
def zC:bJ:=⟨[0,1,2,6,11,12],[(.slot 13,.i),(.slot 7,.s)],[(.one 0,5),(.one 1,.cD [1] 6),(.one 1,.lo 1)],[.closed (.one (.ci .i64 0)),.closed (.one (.nl)),.frm 0],5,[(6,4)]⟩
def zD:List Step:=[bQ [5,3] oT (au .lss),bQ [5,1] oT (au .eql),bQ [5,.lit (.ci .i64 1)] [oN 8] (au .add)]
def zE:List Step:=[bQ [5,3] oT (au .lss),bQ [5,1] oF (au .eql),bQ [0,5] [oP 9] (aN 96),bQ [9] [oS 10] (aO 58),bQ [10] [oN 11] (aK 58),.loop zy [(zA,[.frm 19,.frm 17,.frm 0]),(zB,[.frm 26,.frm 25,.frm 0])] KJ,.shut 2,.derive (.agg [.s 20 1]) (.agg [.s]) [(0,1,12)] 13,.base ⟨0,[6,.row 1 [13]],[oS 14],.loose [] 1 0 (bO 96 96)⟩,bQ [5,.lit (.ci .i64 1)] [oN 15] (au .add)]
def KK:List Step:=[bQ [5,3] oF (au .lss)]
def KL:List Step:=[bQ [0] [oN 3] (aK 96),.loop zC [(zD,[.frm 8,.frm 6,.frm 0]),(zE,[.frm 15,.frm 14,.frm 0])] KK]
def KM:List Out:=[oS 0,oN 1,oN 2]
theorem KN  (hn:n<=1000) (hm:m<=1000) (hk:k<m) (_:i<n:=by omega):aj (ph (nK M n m K i k)) prog ⟨95,[0,1,2],[oS 4],false⟩:=aQ KM [oS 4] KL func95 (by kernel_rfl) (lB (aS (F:=(aw (bg M m K))) underlying96 ad rfl) (cm (counted n (fun r=>ph (nK M n m K i k ++ tv M m K i k r)) (fun r=>if r=i then 0 else 1) (fun r p hp=>cn (show p<(nK M n m K i k).length from hp)) ⟨fun _=>rfl,fun w=>aL.nil 58 (bg (mnr M i k) (m-1) K) w,bB,trivial⟩ (fun r hr=>by
   have hdi:=zx i r
   by_cases hcr:r=i
   ·skip
    exact ⟨(zD,[.frm 8,.frm 6,.frm 0]),by rw [if_pos hcr];rfl,⟨ad,fun w v h=>show aL 58 (bg (mnr M i k) (m-1) K) (dcr i (r+1)) w v by rw [zr hcr];exact h,bB,trivial⟩,(lB (bH ad ad) (lB (iH (op:=.eql) ad ad (cj (decide_eq_true (by omega)) (by simp))) (lB (ct ad rfl) aD)))⟩
   ·skip
    exact ⟨(zE,[.frm 15,.frm 14,.frm 0]),by rw [if_neg hcr];rfl,⟨ad,fun w v h=>show aL 58 (bg (mnr M i k) (m-1) K) (dcr i (r+1)) w v by rw [zt hcr];exact h,bB,trivial⟩,(lB (bH ad ad) (lB (iH (op:=.eql) ad ad (cj (decide_eq_false (by omega)) (by simp))) (lB (co (i:=r) (F:=(aw (bg M m K))) underlying96 ad ad rfl) (lB (fi (G:=Rw 1 (aw (bS (M r) K)) m) ad (fun _ _ h=>dE h) rfl) (lB (aS (F:=(aw (bS (M r) K))) underlying58 ad rfl) (cm (counted m (fun c=>ph ((nK M n m K i k ++ tv M m K i k r) ++ KH M m K k r c)) (fun c=>if c=k then 0 else 1) (fun c p hp=>cn (show p<(nK M n m K i k ++ tv M m K i k r).length from hp)) ⟨fun _=>rfl,fun w=>aL.nil 32 (bS (fun c'=>M r (aG k c')) K) w,bB,trivial⟩ (fun c hc=>by
   have hdk:=zx k c
   by_cases hcc:c=k
   ·skip
    exact ⟨(zA,[.frm 19,.frm 17,.frm 0]),by rw [if_pos hcc];rfl,⟨ad,fun w v h=>show aL 32 (bS (fun c'=>M r (aG k c')) K) (dcr k (c+1)) w v by rw [zr hcc];exact h,bB,trivial⟩,(lB (bH ad ad) (lB (iH (op:=.neq) ad ad (cj (decide_eq_false (fun h=>h (by omega))) (by simp))) (lB (ct ad rfl) aD)))⟩
   ·skip
    exact ⟨(zB,[.frm 26,.frm 25,.frm 0]),by rw [if_neg hcc];rfl,⟨ad,fun w v h=>show aL 32 (bS (fun c'=>M r (aG k c')) K) (dcr k (c+1)) w v by rw [zt hcc];exact h,bB,trivial⟩,(lB (bH ad ad) (lB (iH (op:=.neq) ad ad (cj (decide_eq_true (by omega)) (by simp))) (lB (co (i:=r) (F:=(aw (bg M m K))) underlying96 ad ad rfl) (lB (fi (G:=Rw 1 (aw (bS (M r) K)) m) ad (fun _ _ h=>dE h) rfl) (lB (co (i:=c) (F:=(aw (bS (M r) K))) underlying58 ad ad rfl) (lB (KF (F:=(bS (fun c'=>M r (aG k c')) K)) (i:=(dcr k c)) (fi (G:=fun w v=>Rw 4 (fun ι w v=>af w v ((((ae ((M r) c)) ι:Int):Rat)) K) (((M r) c).length) w v) ad (fun _ _ h=>dE h) rfl) rfl (fun w v h=>show Rw 4 (fun ι w v=>af w v ((ae (M r (aG k (dcr k c))) ι:Int):Rat) K) (M r (aG k (dcr k c))).length w v by rw [zu hcc];exact h)) (lB (fA (n:=(dcr k c)) (F:=(bS (fun c'=>M r (aG k c')) K)) underlying58 (qh _ _) (zq _ _) ad ad rfl) (lB (ct ad rfl) aD))))))))⟩
) (lB (tlF ad ad) aD)
   (fun q hq w v h=>by
    simp only [zy,List.mem_cons,List.not_mem_nil,or_false] at hq
    rcases hq with rfl
    ·exact (fun h=>h) h)) (nL (ba (KG (F:=(bg (mnr M i k) (m-1) K)) (i:=(dcr i r)) rfl (fun _ _ h=>by rw [bg,<- zw hk,show mnr M i k (dcr i r)=fun c'=>M r (aG k c') by funext c';rw [mnr,zu hcr]];exact aL.rw h)) (lB (fA (n:=(dcr i r)) (F:=(bg (mnr M i k) (m-1) K)) underlying96 (slM _ _ _) (jJ _ _ _) ad ad rfl) (lB (ct ad rfl) aD))))))))))⟩
) (lB (tlF ad ad) aD)
   (fun q hq w v h=>by
    simp only [zC,List.mem_cons,List.not_mem_nil,or_false] at hq
    rcases hq with rfl
    ·exact (fun h=>h) h)) aD))
  (aM [.fact 0 (.one (.s)),.fact 1 (.one (.i)),.fact 2 (.one (.i))] ⟨Rw.Is 1 (aw (bg M m K)) n,fun _ _ h=>h▸dc _,fun _ _ h=>h▸dc _,trivial⟩) (fun _ _ _ h=>h)
section
variable {p q r:Nat}
theorem zF (hp:∀w v,Φ p w v->Rw 1 (aw (bg M n K)) n w v) (hr:∀w v,Φ r w v->v = .int .i64 (k:Int)) (hx:Φ x=Rw 1 (aw (bg (mnr M 0 k) m K)) m) (hm:n-1=m) (hn:n<=1000:=by omega) (hk:k<n:=by omega):aj Φ prog ⟨95,[.fact p,.lit (.ci .i64 0),.fact r],[oS x],false⟩:=
 aT (KN (M:=M) (K:=K) (i:=0) hn hn hk) ⟨hp,fun _=>rfl,hr,trivial⟩ ⟨⟨rfl,⟨rfl,rfl,fun _ _ h=>by rw [hx];have h':aL _ (bg (mnr M 0 k) (n-1) K) (dcr 0 n) _ _:=h;rw [zw (show 0<n by omega),hm] at h';exact aL.rw h'⟩,trivial⟩,trivial⟩
end
def KO (M:Nat->Nat->List Int) (K:Nat):List WP:=[Rw 1 (aw (bg M 0 K)) 0,Nz 0,Ni (1),fun w v=>Rw 1 (fun i _ v=>v = .agg #[.int .i64 (ae [1] i)]) 1 w v,fun w v=>Rw 4 (fun ι w v=>af w v ((((ae ([1])) ι:Int):Rat)) 6) 1 w v]
def KP:List Step:=[bQ [0] [oN 1] (aK 96),bQ [1,.lit (.ci .i64 0)] oT (au .eql),.derive (.one (.ci .i64 1)) (.one (.lit (.ci .i64 1))) [] 2,.base ⟨0,[.any,2],[oS 3],.fresh [] (cu 49 1)⟩,.base ⟨28,[3],[oS 4],false⟩]
def KQ:List Out:=[oS 0]
theorem KR   : aj (ph (KO M K)) prog ⟨56,[0],[oS 4],false⟩:=aQ KQ [oS 4] KP func56 (by kernel_rfl) (lB (aS (F:=(aw (bg M 0 K))) underlying96 ad rfl) (lB (cB (op:=.eql) ad (cj (rfl) (by simp))) (ba (ef rfl) (lB (eP (ps:=[2]) (sz:=1) (n:=1) (F:=(fun i _ v=>v = .agg #[.int .i64 (ae [1] i)])) (zc:=.one (.ci .i64 0)) underlying49 rfl (nA ad) rfl) (lB (zG (z:=ae [1]) (n:=1) (L:=[1]) ad rfl (nB (by decide))) aD)))))
  (aM [.fact 0 (.one (.s))] ⟨Rw.Is 1 (aw (bg M 0 K)) 0,trivial⟩) aV
def tw (M:Nat->Nat->List Int) (n K _k:Nat):List WP:=[Rw 1 (aw (bg M (n+1) K)) (n+1),Nz (n+1),Nz (n+1),fun w v=>Rw 4 (fun ι w v=>af w v ((((ae (bI (M 0) (fun k=>aI n (mnr M 0 k)) (n+1))) ι:Int):Rat)) 2000) (bI (M 0) (fun k=>aI n (mnr M 0 k)) (n+1)).length w v]
def KS (M:Nat->Nat->List Int) (n K _k:Nat) (j:Nat):List WP:=[Nz j,fun w v=>Rw 4 (fun ι w v=>af w v ((((ae (bI (M 0) (fun k=>aI n (mnr M 0 k)) j)) ι:Int):Rat)) 2000) (bI (M 0) (fun k=>aI n (mnr M 0 k)) j).length w v,Ptr 1 (aw (bg M (n+1) K) 0),Rw 1 (aw (bS (M 0) K)) (n+1),Ptr 1 (aw (bS (M 0) K) j),fun w v=>Rw 4 (fun ι w v=>af w v ((((ae ((M 0) j)) ι:Int):Rat)) K) (((M 0) j).length) w v,Rw 1 (aw (bg (mnr M 0 j) n K)) n,fun w v=>Rw 4 (fun ι w v=>af w v ((((ae (aI n (mnr M 0 j))) ι:Int):Rat)) 2000) ((aI n (mnr M 0 j)).length) w v,fun w v=>Rw 4 (fun ι w v=>af w v ((((ae (ah ((M 0) j) (aI n (mnr M 0 j)))) ι:Int):Rat)) 2000) ((ah ((M 0) j) (aI n (mnr M 0 j))).length) w v,Ni (Int.tmod ((j:Nat):Int) 2),fun w v=>Rw 4 (fun ι w v=>af w v ((((ae (bK (ah ((M 0) j) (aI n (mnr M 0 j))))) ι:Int):Rat)) 2000) ((bK (ah ((M 0) j) (aI n (mnr M 0 j)))).length) w v,fun w v=>Rw 4 (fun ι w v=>af w v ((((ae (aP (bI (M 0) (fun k=>aI n (mnr M 0 k)) j) (bK (ah ((M 0) j) (aI n (mnr M 0 j)))))) ι:Int):Rat)) 2000) ((aP (bI (M 0) (fun k=>aI n (mnr M 0 k)) j) (bK (ah ((M 0) j) (aI n (mnr M 0 j))))).length) w v,Nz (j+1),Ptr 1 (aw (bg M (n+1) K) 0),Rw 1 (aw (bS (M 0) K)) (n+1),Ptr 1 (aw (bS (M 0) K) j),fun w v=>Rw 4 (fun ι w v=>af w v ((((ae ((M 0) j)) ι:Int):Rat)) K) (((M 0) j).length) w v,Rw 1 (aw (bg (mnr M 0 j) n K)) n,fun w v=>Rw 4 (fun ι w v=>af w v ((((ae (aI n (mnr M 0 j))) ι:Int):Rat)) 2000) ((aI n (mnr M 0 j)).length) w v,fun w v=>Rw 4 (fun ι w v=>af w v ((((ae (ah ((M 0) j) (aI n (mnr M 0 j)))) ι:Int):Rat)) 2000) ((ah ((M 0) j) (aI n (mnr M 0 j))).length) w v,Ni (Int.tmod ((j:Nat):Int) 2),fun w v=>Rw 4 (fun ι w v=>af w v ((((ae (aP (bI (M 0) (fun k=>aI n (mnr M 0 k)) j) (ah ((M 0) j) (aI n (mnr M 0 j))))) ι:Int):Rat)) 2000) ((aP (bI (M 0) (fun k=>aI n (mnr M 0 k)) j) (ah ((M 0) j) (aI n (mnr M 0 j)))).length) w v,Nz (j+1)]
def zH:bJ:=⟨[0,2,6,7,8,11,12],[(.slot 13,.i),(.slot 3,.s)],[(.one 0,4),(.one 1,5)],[.closed (.one (.ci .i64 0)),.closed (.one (.nl))],4,[(5,3)]⟩
def zI:List Step:=[bQ [4,2] oT (au .lss),bQ [0,.lit (.ci .i64 0)] [oP 6] (aN 96),bQ [6] [oS 7] (aO 58),bQ [7,4] [oP 8] (aN 58),bQ [8] [oS 9] (aO 32),.base ⟨95,[0,.lit (.ci .i64 0),4],[oS 10],false⟩,.base ⟨56,[10],[oS 11],false⟩,.base ⟨52,[9,11],[oS 12],false⟩,bQ [4,.lit (.ci .i64 2)] [oN 13] (mn),bQ [13,.lit (.ci .i64 1)] oT (au .eql),.base ⟨88,[12],[oS 14],false⟩,.base ⟨59,[5,14],[oS 15],false⟩,bQ [4,.lit (.ci .i64 1)] [oN 16] (au .add)]
def zJ:List Step:=[bQ [4,2] oT (au .lss),bQ [0,.lit (.ci .i64 0)] [oP 17] (aN 96),bQ [17] [oS 18] (aO 58),bQ [18,4] [oP 19] (aN 58),bQ [19] [oS 20] (aO 32),.base ⟨95,[0,.lit (.ci .i64 0),4],[oS 21],false⟩,.base ⟨56,[21],[oS 22],false⟩,.base ⟨52,[20,22],[oS 23],false⟩,bQ [4,.lit (.ci .i64 2)] [oN 24] (mn),bQ [24,.lit (.ci .i64 1)] oF (au .eql),.base ⟨59,[5,23],[oS 25],false⟩,bQ [4,.lit (.ci .i64 1)] [oN 26] (au .add)]
def KT:List Step:=[bQ [4,2] oF (au .lss)]
def KU:List Step:=[bQ [0] [oN 1] (aK 96),bQ [1,.lit (.ci .i64 0)] oF (au .eql),bQ [0] [oN 2] (aK 96),.loop zH [(zI,[.frm 16,.frm 15]),(zJ,[.frm 26,.frm 25])] KT]
def KV:List Out:=[oS 0]
theorem KW  (ih:∀{Φ:PH}{p x:Nat} (M':Nat->Nat->List Int),(∀w v,Φ p w v->Rw 1 (aw (bg M' n K)) n w v)->(Φ x=fun w v=>Rw 4 (fun ι w v=>af w v ((ae (aI n M') ι:Int):Rat) 2000) (aI n M').length w v)->(∀i j,i<n->j<n->EOk c k (M' i j))->aj Φ prog ⟨56,[.fact p],[oS x],false⟩) (hK:K<=2000) (hc:c<=100) (_hk:k<=100) (hM:∀i j,i<n+1->j<n+1->EOk c k (M i j)) (hbd:bD c k n+k+c+(n+1)+1<=2000) (hn:n<=3:=by omega):aj (ph (tw M n K k)) prog ⟨56,[0],[oS 3],false⟩:=by
 have hm':∀j,j<n+1->∀i l,i<n->l<n->EOk c k (mnr M 0 j i l):=fun j hj i l hi hl=>hM _ _ (by unfold aG;split <;> omega) (by unfold aG;split <;> omega)
 have hd:∀j,j<n+1->EOk (n*c+1) (bD c k n) (aI n (mnr M 0 j)):=fun j hj=>nH n _ (hm' j hj)
 have hnc:n*c<=3*100:=Nat.mul_le_mul hn hc
 have hX:∀j,j<n+1->EOk (c+(n*c+1)) (k+bD c k n+c) (ah (M 0 j) (aI n (mnr M 0 j))):=fun j hj=>(hM 0 j (by omega) hj).mul (hd j hj)
 have hs:∀j,j<=n+1->EOk (c+(n*c+1)) (k+bD c k n+c+j) (bI (M 0) (fun k=>aI n (mnr M 0 k)) j):=qe (fun j hj=>hM 0 j (by omega) hj) hd
 exact aQ KV [oS 3] KU func56 (by kernel_rfl) (lB (aS (F:=(aw (bg M (n+1) K))) underlying96 ad rfl) (lB (cB (op:=.eql) ad (cj (decide_eq_false (p:=(((n+1:Nat):Int)=(0:Int))) (by omega)) (by simp))) (lB (aS (F:=(aw (bg M (n+1) K))) underlying96 ad rfl) (cm (counted (n+1) (fun j=>ph (tw M n K k ++ KS M n K k j)) (fun j=>if j % 2=1 then 0 else 1) (fun j p hp=>cn (show p<(tw M n K k).length from hp)) ⟨fun _=>rfl,fun w=>Rw.nil 4 (fun ι w v=>af w v ((((ae (bI (M 0) (fun k=>aI n (mnr M 0 k)) 0)) ι:Int):Rat)) 2000) w,trivial⟩ (fun j hj=>by
   skip
   by_cases hcj:j % 2=1
   ·skip
    exact ⟨(zI,[.frm 16,.frm 15]),by rw [if_pos hcj];rfl,⟨ad,fun w v h=>show Rw 4 (fun ι w v=>af w v ((((ae (bI (M 0) (fun k=>aI n (mnr M 0 k)) (j+1))) ι:Int):Rat)) 2000) (bI (M 0) (fun k=>aI n (mnr M 0 k)) (j+1)).length w v by rw [bI,gY,if_pos hcj];exact h,trivial⟩,(lB (bH ad ad) (lB (cI 0 (sz:=1) (n:=(n+1)) (F:=(aw (bg M (n+1) K))) underlying96 (fun _ _ h=>Rw.arr h) rfl rfl) (lB (fi (G:=Rw 1 (aw (bS (M 0) K)) (n+1)) ad (fun _ _ h=>dE h) rfl) (lB (co (i:=j) (F:=(aw (bS (M 0) K))) underlying58 ad ad rfl) (lB (fi (G:=fun w v=>Rw 4 (fun ι w v=>af w v ((((ae ((M 0) j)) ι:Int):Rat)) K) (((M 0) j).length) w v) ad (fun _ _ h=>dE h) rfl) (lB (zF (n:=n+1) (M:=M) (k:=j) ad ad rfl rfl) (lB (ih (mnr M 0 j) ad rfl (hm' j hj)) (lB (cH (A:=((M 0) j)) (B:=(aI n (mnr M 0 j))) (k:=K) (l:=2000) (K:=2000) ad ad rfl (hM 0 j (by omega) hj) (hd j hj)) (lB (qi ad (by decide) rfl) (lB (cB (op:=.eql) ad (cj (decide_eq_true (by have:=Int.tmod_eq_emod_of_nonneg (a:=(j:Int)) (b:=2) (by omega);omega)) (by simp))) (lB (Ku (A:=(ah ((M 0) j) (aI n (mnr M 0 j)))) (k:=2000) ad rfl (by have:=(hX j hj).len;omega) (hX j hj).nrm (fun i=>((hX j hj).bd i).more (by omega))) (lB (kO (A:=(bI (M 0) (fun k=>aI n (mnr M 0 k)) j)) (B:=(bK (ah ((M 0) j) (aI n (mnr M 0 j))))) (k:=2000) (l:=2000) (K:=2000) ad ad rfl (by have:=(hs j (by omega)).len;omega) (by have:=(hX j hj).neg.len;omega) (fun i=>by have:=((hs (j+1) (by omega)).bd i).more (show _<=2000 by omega);rw [bI,gY,if_pos hcj] at this;exact this)) (lB (ct ad rfl) aD)))))))))))))⟩
   ·skip
    exact ⟨(zJ,[.frm 26,.frm 25]),by rw [if_neg hcj];rfl,⟨ad,fun w v h=>show Rw 4 (fun ι w v=>af w v ((((ae (bI (M 0) (fun k=>aI n (mnr M 0 k)) (j+1))) ι:Int):Rat)) 2000) (bI (M 0) (fun k=>aI n (mnr M 0 k)) (j+1)).length w v by rw [bI,gY,if_neg hcj];exact h,trivial⟩,(lB (bH ad ad) (lB (cI 0 (sz:=1) (n:=(n+1)) (F:=(aw (bg M (n+1) K))) underlying96 (fun _ _ h=>Rw.arr h) rfl rfl) (lB (fi (G:=Rw 1 (aw (bS (M 0) K)) (n+1)) ad (fun _ _ h=>dE h) rfl) (lB (co (i:=j) (F:=(aw (bS (M 0) K))) underlying58 ad ad rfl) (lB (fi (G:=fun w v=>Rw 4 (fun ι w v=>af w v ((((ae ((M 0) j)) ι:Int):Rat)) K) (((M 0) j).length) w v) ad (fun _ _ h=>dE h) rfl) (lB (zF (n:=n+1) (M:=M) (k:=j) ad ad rfl rfl) (lB (ih (mnr M 0 j) ad rfl (hm' j hj)) (lB (cH (A:=((M 0) j)) (B:=(aI n (mnr M 0 j))) (k:=K) (l:=2000) (K:=2000) ad ad rfl (hM 0 j (by omega) hj) (hd j hj)) (lB (qi ad (by decide) rfl) (lB (cB (op:=.eql) ad (cj (decide_eq_false (by have:=Int.tmod_eq_emod_of_nonneg (a:=(j:Int)) (b:=2) (by omega);omega)) (by simp))) (lB (kO (A:=(bI (M 0) (fun k=>aI n (mnr M 0 k)) j)) (B:=(ah ((M 0) j) (aI n (mnr M 0 j)))) (k:=2000) (l:=2000) (K:=2000) ad ad rfl (by have:=(hs j (by omega)).len;omega) (by have:=(hX j hj).len;omega) (fun i=>by have:=((hs (j+1) (by omega)).bd i).more (show _<=2000 by omega);rw [bI,gY,if_neg hcj] at this;exact this)) (lB (ct ad rfl) aD))))))))))))⟩
) (lB (tlF ad ad) aD)
   (fun q hq w v h=>by
    simp only [zH,List.mem_cons,List.not_mem_nil,or_false] at hq
    rcases hq with rfl
    ·exact (fun h=>h) h)) aD))))
  (aM [.fact 0 (.one (.s))] ⟨Rw.Is 1 (aw (bg M (n+1) K)) (n+1),trivial⟩) aV
theorem tz {c k:Nat} (hc:c<=100) (hk:k<=100):∀n,n<=4->bD c k n<=1+210*n
 | 0,_=>Nat.le_refl 1
 | n+1,h=>by
  have:=tz hc hk n (by omega)
  rw [bD]
  omega
theorem tA {K c k:Nat} (hK:K<=2000) (hc:c<=100) (hk:k<=100):∀n,n<=4->∀{Φ:PH}{p x:Nat} (M:Nat->Nat->List Int),(∀w v,Φ p w v->Rw 1 (aw (bg M n K)) n w v)->(Φ x=fun w v=>Rw 4 (fun ι w v=>af w v ((ae (aI n M) ι:Int):Rat) 2000) (aI n M).length w v)->(∀i j,i<n->j<n->EOk c k (M i j))->aj Φ prog ⟨56,[.fact p],[oS x],false⟩
 | 0,_,Φ,p,x,M,hp,hx,_=>aT (KR (M:=M) (K:=K)) ⟨hp,trivial⟩ ⟨⟨rfl,⟨rfl,rfl,fun w v h=>by
   rw [hx]
   exact Rw.to (sz:=4) (n:=1) (F:=fun ι w v=>af w v ((ae [1] ι:Int):Rat) 6) h fun i w v _ h=>h.more (by omega)⟩,trivial⟩,trivial⟩
 | n+1,hn,Φ,p,x,M,hp,hx,hM=>aT (KW (M:=M) (n:=n) (K:=K) (c:=c) (k:=k) (fun M' h1 h2 h3=>tA hK hc hk n (by omega) M' h1 h2 h3) hK hc hk hM (by have:=tz hc hk n (by omega);omega)) ⟨hp,trivial⟩ ⟨⟨rfl,⟨rfl,rfl,fun _ _ h=>hx▸h⟩,trivial⟩,trivial⟩
def bT (z:Nat->Nat->Int) (ln:Nat->Nat) (K k:Nat) (w:World) (v:Value):Prop:=Rw 2 (If (z k) K) (ln k) w v
def bh (z:Nat->Nat->Nat->Int) (ln:Nat->Nat->Nat) (m K i:Nat) (w:World) (v:Value):Prop:=Rw 1 (aw (bT (z i) (ln i) K)) m w v
theorem slI (z:Nat->Nat->Int) (ln:Nat->Nat) (K k:Nat) (w:World) (s:Value) (h:bT z ln K k w s):∃p n c,s = .slice p n c:=dE h
theorem iJ (z:Nat->Nat->Nat->Int) (ln:Nat->Nat->Nat) (m K i:Nat) (w:World) (s:Value) (h:bh z ln m K i w s):∃p n c,s = .slice p n c:=dE h
theorem qj (z:Nat->Nat->Int) (ln:Nat->Nat) (K k:Nat):dm (bT z ln K k):=xi (z0:=.slice none 0 0) (fun _ _ _ _ g h=>aF.kp h g) fun i w l h hl=>by
 obtain ⟨b,s,X,e,-⟩:=h
 obtain rfl:l = [.bool b,s]:=by simpa using e
 exact ⟨_,rfl,fun h=>by (cases h),fun _ _ h=>by cases h⟩
theorem gj (z:Nat->Nat->Nat->Int) (ln:Nat->Nat->Nat) (m K i:Nat):dm (bh z ln m K i):=xj (slI _ _ _) (qj _ _ _)
theorem kP  (h:aj Φ P ⟨f,ls,[oS x],false⟩) (hy:Φ y=aw F i) (hF:∀w v,Φ x w v->F i w v):aj Φ P ⟨f,ls,[⟨.one .s,[(0,0,x),(0,2,y)]⟩],false⟩:=fun X w vs hX ha=>(h X w vs hX ha).mono fun e w' ⟨g,us,he,ho⟩=>⟨g,us,he,by
 match us,ho with
 | [u],⟨⟨h3,h4⟩,h5⟩=>
  refine ⟨⟨h3,fun q hq w1 hw=>?_⟩,h5⟩
  simp only [List.mem_cons,List.not_mem_nil,or_false] at hq
  rcases hq with rfl | rfl
  ·exact h4 _ (List.mem_singleton.2 rfl) w1 hw
  ·obtain ⟨⟨p,n,c,rfl⟩,-⟩:=h3
   show Φ y w1 _
   rw [hy]
   exact ⟨_,rfl,hF _ _ (h4 (0,0,x) (List.mem_singleton.2 rfl) w1 hw)⟩⟩
theorem qk {a:Atom}{G:WP} (hx:Φ x=G) (h:∀w,G w (a.ev cV)) (X:Nat->Prop) (w:World) (v:Value) (hv:(Arg.parts (.one (.lit a)) []).ok Φ X w v):(Arg.fact x).ok Φ X w v:=fun w1 _=>by
 rw [hx]
 obtain ⟨h1,-⟩:=hv
 obtain rfl:v=a.ev cV:=h1.1
 exact h w1
section
variable {p n0:Nat}{z:Nat->Int}
end
section
variable {p q r nl:Nat}{al:Nat->Nat->Bool}{xl:Nat->Nat->List Nat}{ml ln:Nat->Nat}{z:Nat->Nat->Int}
end
end Go.Proofs.YtbjfgffibepmkaaGreat.Sym
