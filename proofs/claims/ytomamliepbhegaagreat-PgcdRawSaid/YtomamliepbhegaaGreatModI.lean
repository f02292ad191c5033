/- shared -/
import Derived.Test.YtomamliepbhegaaGreatModG
import Derived.Test.YtomamliepbhegaaGreatGauH
set_option maxRecDepth 100000
namespace Go.Proofs.YtomamliepbhegaaGreat.Sym
open Go.Proofs.Tryz
open Go.RowKit
variable {A B C J M c k ka kb la lb:Nat}{e:TypeId}{w:World}{v:Value}{a b g:Nat->Int}{lead:Int}{l:Nat->Nat}{gg x:Nat->Nat->Int}
theorem qM  (hk:k<256:=by omega):2147000000<=prK k∧prK k<=2147483647:=⟨ie hk,by have:=(kI hk).2;omega⟩
theorem Gm:∀{f n:Nat},n<=2*f->prm (gy f n)=true∨gy f n<=1
 | 0,n,h=>.inr (by unfold gy;omega)
 | f+1,n,h=>by
  unfold gy
  cases h1:Nat.ble n 1
  ·rw [cond_false]
   cases h2:prm n
   ·rw [cond_false];exact Gm (by omega)
   ·rw [cond_true];exact .inl h2
  ·rw [cond_true];exact .inr (Nat.le_of_ble_eq_true h1)
theorem jZ  (hk:k+1<256:=by omega):prm (prK (k+1))=true:=by
 have hb:=ie hk
 have e:prK (k+1)=gy (prK k) (prK k-2):=sb k
 rcases Gm (f:=prK k) (n:=prK k-2) (by omega) with h | h
 ·rw [e];exact h
 ·omega
section
theorem tC (h:lead % ((prK k:Nat):Int)=0):aw lead l x (k+1)=aw lead l x k:=by rw [aw,if_pos h]
theorem xG (h:lead % ((prK k:Nat):Int)≠0) (hp:dF lead l x k):aw lead l x (k+1)=aw lead l x k:=by
 have hp':0<(aw lead l x k).1∧(aw lead l x k).1<l k:=hp
 rw [aw,if_neg h,if_pos hp']
theorem ke (h:lead % ((prK k:Nat):Int)≠0) (hp:¬dF lead l x k):(aw lead l x (k+1)).1=l k:=by rw [vT h hp]
theorem Xg (h:lead % ((prK k:Nat):Int)≠0) (hp:¬dF lead l x k):dvL (aw lead l x (k+1)).2.2 (aw lead l x (k+1)).1 (ba (aw lead l x (k+1)).2.2 (aw lead l x (k+1)).1)=bc lead l x k:=by rw [ke h hp];rfl
theorem qN (h:jJ lead l x k):true=decide (∀j,j<l k->mvn (prK k) ((gsM lead l x k:Nat):Int) (gf lead l x k j) (x k j)=0):=by unfold jJ at h;exact (decide_eq_true h).symm
theorem Gn (h:¬jJ lead l x k):false=decide (∀j,j<l k->mvn (prK k) ((gsM lead l x k:Nat):Int) (gf lead l x k j) (x k j)=0):=by unfold jJ at h;exact (decide_eq_false h).symm
theorem Gp  (w:World):ah 2 e (Nf ((aw lead l x 0).2.2) 257) (aw lead l x 0).1 w (.slice none 0 0):=ah.nil 2 e _ w
theorem Gs  (hs:lead % ((prK k:Nat):Int)=0) (h:ah 2 e (fun i w v=>ai w v ((aw lead l x k).2.2 i) 257) (aw lead l x k).1 w v):ah 2 e (fun i w v=>ai w v ((aw lead l x (k+1)).2.2 i) 257) (aw lead l x (k+1)).1 w v:=by rw [tC hs];exact h
theorem Gt  (hs:lead % ((prK k:Nat):Int)=0) (h:ai w v (((aw lead l x k).2.1:Nat):Int) 258):ai w v (((aw lead l x (k+1)).2.1:Nat):Int) 258:=by rw [tC hs];exact h
theorem Xh (hp:¬dF lead l x k):(l k=(aw lead l x k).1∧gf lead l x k=(aw lead l x k).2.2∧((gsM lead l x k:Nat):Int)=(((aw lead l x k).2.1:Nat):Int))∨(l k≠(aw lead l x k).1∧((aw lead l x k).1=0∨l k<(aw lead l x k).1)∧(gf lead l x k=fun _=>0)∧((gsM lead l x k:Nat):Int)=1):=by
 by_cases e:l k=(aw lead l x k).1
 ·exact .inl ⟨e,by rw [gf,if_pos e],by rw [gsM,if_pos e]⟩
 ·refine .inr ⟨e,?_,by rw [gf,if_neg e],by rw [gsM,if_neg e];rfl⟩
  have hp':¬(0<(aw lead l x k).1∧(aw lead l x k).1<l k):=hp
  omega
end
section
variable {Φ:PH}{p q r s x1 x2 P m:Nat}{c:Int}{rb:Bool}{G:Nat->Int}
theorem kf  (hg:imG P a la b lb=g) (hl:ig P a la b lb=m) (hp:∀w v,Φ p w v->ah 1 99 (aA .u64 a) la w v) (hq:∀w v,Φ q w v->ah 1 99 (aA .u64 b) lb w v) (hr:∀w v,Φ r w v->v = .int .u64 ((P:Nat):Int)) (hx:Φ s=ah 1 99 (aA .u64 g) m)
  (hP:Prm P) (ha:Vd P a la) (hb:Vd P b lb) (hne:0<la∨0<lb) (hla:la<=1000000:=by omega) (hlb:lb<=1000000:=by omega) (eh:P<2147483648:=by omega):aj Φ prog ⟨97,[.fact p,.fact q,.fact r],[oS s],.cV [1,2] [1,2] [([1],[1]),([2],[2]),([],[])] false⟩:=by
 subst hg hl
 exact Xf hp hq hr hx hla hlb hP eh ha hb hne
theorem kW {js:List Nat} (hg:scl P c a=g) (hp:∀w v,Φ p w v->ah 1 99 (aA .u64 a) la w v) (hq:∀w v,Φ q w v->v = .int .u64 c) (hr:∀w v,Φ r w v->v = .int .u64 ((P:Nat):Int)) (hx:Φ s=ah 1 99 (aA .u64 g) la)
  (hc:0<=c∧c<P) (ha:∀j,0<=a j∧a j<P) (hjs:js ≠ []:=by simp) (hla:la<=1000000:=by omega) (hP:0<P:=by omega) (eh:P<2147483648:=by omega):aj Φ prog ⟨100,[.fact p,.fact q,.fact r],[oS s],.cV js js [(js,js),([],[]),([],[])] false⟩:=by
 subst hg
 exact Xe hjs hp hq hr hx hla hP eh hc ha
theorem Gu (hp:∀w v,Φ p w v->ah 2 57 (Nf ((aw lead l x k).2.2) 257) (aw lead l x k).1 w v) (hq:∀w v,Φ q w v->ai w v (((aw lead l x k).2.1:Nat):Int) 258) (hr:∀w v,Φ r w v->Rw 1 (aA .u64 (x k)) (l k) w v) (hs:∀w v,Φ s w v->v = .int .u64 ((prK k:Nat):Int))
  (hx1:Φ x1=fun w v=>ah 2 57 (fun i w v=>ai w v ((aw lead l x (k+1)).2.2 i) 257) (aw lead l x (k+1)).1 w v) (hx2:Φ x2=Nw (((aw lead l x (k+1)).2.1:Nat):Int) 258) (h:lead % ((prK k:Nat):Int)≠0) (hP:dF lead l x k) :
  aj Φ prog ⟨99,[.parts (.agg [.s,.b,.s]) [(0,1,p),(1,2,q)],.fact r,.fact s],[oL (.cb false),⟨.agg [.s,.b,.s],[(0,1,x1),(1,2,x2)]⟩],.fU [3,1,2] 3 3 [[3],[1,2],[]]⟩:=by
 rw [xG h hP] at hx1 hx2
 exact WU hp hq hr hs hx1 hx2 hP.1 hP.2
theorem qO (hp:∀w v,Φ p w v->Rw 2 (fun i w v=>ai w v ((aw lead l x (k+1)).2.2 i) 257) (aw lead l x (k+1)).1 w v) (hx1:Φ x1=Nw (ba (aw lead l x (k+1)).2.2 (aw lead l x (k+1)).1) 257) (hx2:Φ x2=Rw 2 (Nf (ae (bc lead l x k)) 257) (bc lead l x k).length)
  (h:lead % ((prK k:Nat):Int)≠0) (hP:¬dF lead l x k) (hn:(aw lead l x (k+1)).1<=1000000:=by omega):aj Φ prog ⟨33,[.fact p],[oI x1,oS x2],true⟩:=
 AB (fun w v hh=>(hp w v hh).to fun _ _ _ _ h=>ai.i h) hx1 hx2 hn (Xg h hP) rfl
theorem Xi {M:Int}{F y:Nat->Int}{n i:Nat} (h:i<n):aS p M F y n i=F i+M*bM p (mvn p M (F i) (y i)):=if_pos h
theorem nc (hp:∀w v,Φ p w v->ah 2 57 (Nf ((aw lead l x k).2.2) 257) (aw lead l x k).1 w v) (hq:∀w v,Φ q w v->ai w v (((aw lead l x k).2.1:Nat):Int) 258) (hr:∀w v,Φ r w v->Rw 1 (aA .u64 (x k)) (l k) w v) (hs:∀w v,Φ s w v->v = .int .u64 ((prK k:Nat):Int))
  (hx1:Φ x1=fun w v=>ah 2 57 (fun i w v=>ai w v ((aw lead l x (k+1)).2.2 i) 257) (aw lead l x (k+1)).1 w v) (hx2:Φ x2=Nw (((aw lead l x (k+1)).2.1:Nat):Int) 258) (h:lead % ((prK k:Nat):Int)≠0) (hP:¬dF lead l x k)
  (hx:∀i,0<=x k i∧x k i<((prK k:Nat):Int)) (hB:∀i,Bd ((aw lead l x (k+1)).2.2 i).natAbs 257) (hBM:Bd (aw lead l x (k+1)).2.1 258) (hrb:rb=decide (∀j,j<l k->mvn (prK k) ((gsM lead l x k:Nat):Int) (gf lead l x k j) (x k j)=0)) (hl:l k<=1000000:=by omega) (hl0:0<l k:=by omega) (hn0:(aw lead l x k).1<=1000000:=by omega) (hp1:1<prK k:=by omega) (ft:prK k<2147483648:=by omega) :
  aj Φ prog ⟨99,[.parts (.agg [.s,.b,.s]) [(0,1,p),(1,2,q)],.fact r,.fact s],[oL (.cb rb),⟨.agg [.s,.b,.s],[(0,1,x1),(1,2,x2)]⟩],.fU [3,1,2] 3 3 [[3],[1,2],[]]⟩:=by
 have hnx:=vT (x:=x) h hP
 have hB':∀i,i<l k->Bd (gf lead l x k i+((gsM lead l x k:Nat):Int)*bM (prK k) (mvn (prK k) ((gsM lead l x k:Nat):Int) (gf lead l x k i) (x k i))).natAbs 257:=fun i hi=>by
  have:=hB i
  rw [hnx] at this
  dsimp only at this
  rw [if_pos hi] at this
  exact this
 rw [hnx] at hx1 hx2 hBM
 have H:=WW (Φ:=ph [ah 2 57 (Nf ((aw lead l x k).2.2) 257) (aw lead l x k).1,Nw (((aw lead l x k).2.1:Nat):Int) 258,Rw 1 (aA .u64 (x k)) (l k),Nu ((prK k:Nat):Int),ah 2 57 (Nf (aS (prK k) ((gsM lead l x k:Nat):Int) (gf lead l x k) (x k) (l k)) 257) (l k),Nw (((gsM lead l x k:Nat):Int)*((prK k:Nat):Int)) (258+2)])
  (p:=0) (q:=1) (r:=2) (s:=3) (x1:=4) (x2:=5) ad ad ad ad rfl rfl hl hl0 hn0 hp1 ft (by omega) (by omega) (by omega) hx hB' (Xh hP) hrb
 exact fun X L W0 w B c0 vs hgr hX hL hLX hone hWB hXB hLB hlen hcl hag hhd=>by
  match vs,hag with
  | [u1,u2],hag=>
   refine (H X L W0 w B c0 [u1,u2] hgr hX hL hLX hone hWB hXB hLB hlen hcl ⟨⟨⟨hag.1.1.1,fun z hz w1 hw=>?_⟩,fun h=>absurd rfl h⟩,⟨fun w1 hw=>hr _ _ (hag.2.1.1 w1 hw),fun h=>absurd rfl h⟩,⟨fun w1 hw=>hs _ _ (hag.2.2.1.1 w1 hw),fun h=>absurd rfl h⟩,trivial⟩ hhd).mono fun e w' ⟨u,l',he,hwr,hl',hcl',ho,hb⟩=>⟨u,l',he,hwr,hl',hcl',⟨⟨ho.1.1,fun _ h=>by cases h⟩,⟨ho.2.1.1,fun z hz w1 hw=>?_⟩,trivial⟩,hb⟩
   ·simp only [List.mem_cons,List.not_mem_nil,or_false] at hz
    rcases hz with rfl | rfl
    ·exact hp _ _ (hag.1.1.2 (0,1,p) (by simp) w1 hw)
    ·exact hq _ _ (hag.1.1.2 (1,2,q) (by simp) w1 hw)
   ·simp only [List.mem_cons,List.not_mem_nil,or_false] at hz
    rcases hz with rfl | rfl
    ·show Φ x1 w1 _
     rw [hx1]
     have h4:ah 2 57 (Nf (aS (prK k) ((gsM lead l x k:Nat):Int) (gf lead l x k) (x k) (l k)) 257) (l k) w1 (bw 0 1 (.agg l'.toArray)):=ho.2.1.2 (0,1,4) (by simp) w1 hw
     exact h4.to fun i w v hi h=>by
      dsimp only
      rw [if_pos hi]
      replace h:ai _ _ (aS _ _ _ _ _ i) _:=h
      rw [Xi hi] at h
      exact h
    ·show Φ x2 w1 _
     rw [hx2]
     have h5:ai w1 (bw 1 2 (.agg l'.toArray)) (((gsM lead l x k:Nat):Int)*((prK k:Nat):Int)) (258+2):=ho.2.1.2 (1,2,5) (by simp) w1 hw
     dsimp only
     refine ai.re (h5.eq (by rw [Int.natCast_mul])) ?_
     rw [Int.natAbs_natCast]
     exact hBM
end
def xH (a b:Nat->Int) (la lb ka kb J:Nat) (lead:Int) (l:Nat->Nat) (x:Nat->Nat->Int):List WP:=[Rw 2 (If a ka) la,Rw 2 (If b kb) lb,Nw (a (la-1)) ka,Nw (b (lb-1)) kb,Nw lead (ka+kb),Rw 2 (Nf (ae (bc lead l x J)) 257) ((bc lead l x J).length)]
def Xj (a b:Nat->Int) (la lb:Nat) (lead:Int) (l:Nat->Nat) (gg x:Nat->Nat->Int) (j:Nat):List WP:=[Nu ((prK j:Nat):Int),ah 2 57 (Nf ((aw lead l x j).2.2) 257) ((aw lead l x j).1),fun _ _=>True,Nw (((aw lead l x j).2.1:Nat):Int) 258,Nu (lead % (((prK j):Nat):Int)),Nu ((prK (j+1):Nat):Int),Nu (lead % (((prK j):Nat):Int)),ah 1 99 (aA .u64 (img (prK j) a)) (tl (img (prK j) a) la),ah 1 99 (aA .u64 (img (prK j) b)) (tl (img (prK j) b) lb),ah 1 99 (aA .u64 (gg j)) (l j),cw (l j),Nz (l j),ah 1 99 (aA .u64 (x j)) (l j),fun w v=>ah 2 57 (fun ι w v=>ai w v ((aw lead l x (j+1)).2.2 ι) 257) ((aw lead l x (j+1)).1) w v,Nw (((aw lead l x (j+1)).2.1:Nat):Int) 258,Nu ((prK (j+1):Nat):Int),Nu (lead % (((prK j):Nat):Int)),ah 1 99 (aA .u64 (img (prK j) a)) (tl (img (prK j) a) la),ah 1 99 (aA .u64 (img (prK j) b)) (tl (img (prK j) b) lb),ah 1 99 (aA .u64 (gg j)) (l j),cw (l j),Nz (l j),ah 1 99 (aA .u64 (x j)) (l j),fun w v=>ah 2 57 (fun ι w v=>ai w v ((aw lead l x (j+1)).2.2 ι) 257) ((aw lead l x (j+1)).1) w v,Nw (((aw lead l x (j+1)).2.1:Nat):Int) 258,Nu ((prK (j+1):Nat):Int),Nu (lead % (((prK j):Nat):Int)),ah 1 99 (aA .u64 (img (prK j) a)) (tl (img (prK j) a) la),ah 1 99 (aA .u64 (img (prK j) b)) (tl (img (prK j) b) lb),ah 1 99 (aA .u64 (gg j)) (l j),cw (l j),Nz (l j),ah 1 99 (aA .u64 (x j)) (l j),fun w v=>ah 2 57 (fun ι w v=>ai w v ((aw lead l x (j+1)).2.2 ι) 257) ((aw lead l x (j+1)).1) w v,Nw (((aw lead l x (j+1)).2.1:Nat):Int) 258,Nw (ba (aw lead l x (j+1)).2.2 (aw lead l x (j+1)).1) 257,Rw 2 (Nf (ae (bc lead l x j)) 257) ((bc lead l x j).length),Nu ((prK (j+1):Nat):Int),Nu (lead % (((prK j):Nat):Int)),ah 1 99 (aA .u64 (img (prK j) a)) (tl (img (prK j) a) la),ah 1 99 (aA .u64 (img (prK j) b)) (tl (img (prK j) b) lb),ah 1 99 (aA .u64 (gg j)) (l j),cw (l j),Nz (l j),ah 1 99 (aA .u64 (x j)) (l j),fun w v=>ah 2 57 (fun ι w v=>ai w v ((aw lead l x (j+1)).2.2 ι) 257) ((aw lead l x (j+1)).1) w v,Nw (((aw lead l x (j+1)).2.1:Nat):Int) 258,Nw (ba (aw lead l x (j+1)).2.2 (aw lead l x (j+1)).1) 257,Rw 2 (Nf (ae (bc lead l x j)) 257) ((bc lead l x j).length),Nu ((prK (j+1):Nat):Int),Nu (lead % (((prK j):Nat):Int)),ah 1 99 (aA .u64 (img (prK j) a)) (tl (img (prK j) a) la),ah 1 99 (aA .u64 (img (prK j) b)) (tl (img (prK j) b) lb),ah 1 99 (aA .u64 (gg j)) (l j),cw (l j),Nz (l j),ah 1 99 (aA .u64 (x j)) (l j),fun w v=>ah 2 57 (fun ι w v=>ai w v ((aw lead l x (j+1)).2.2 ι) 257) ((aw lead l x (j+1)).1) w v,Nw (((aw lead l x (j+1)).2.1:Nat):Int) 258,Nw (ba (aw lead l x (j+1)).2.2 (aw lead l x (j+1)).1) 257,Rw 2 (Nf (ae (bc lead l x j)) 257) ((bc lead l x j).length)]
def Gv:bf:=⟨[0,1,4,5,6,12,13,14,15,16,17],[(.slot 7,.nk),(.cell 10 0,.s),(.cell 10 1,.b),(.cell 10 2,.s)],[(.one 0,6),(.one 1,.bB [3] 7),(.one 1,.lo 3),(.agg [2,3],.bB [3] 9)],[.closed (.one (.ci .u64 2147483647)),.closed (.one (.nl)),.frm 0,.closed (.agg [.cb false,.nl])],6,[(66,5)]⟩
def Gw:List Step:=[bQ [6,.lit (.ci .u64 2)] oT (aD .gtr),.base ⟨96,[4,6],[oK 10],false⟩,bQ [10,.lit (.ci .u64 0)] oT (aD .eql),.base ⟨95,[6],[oK 11],false⟩]
def Gx:List Step:=[bQ [6,.lit (.ci .u64 2)] oT (aD .gtr),.base ⟨96,[4,6],[oK 12],false⟩,bQ [12,.lit (.ci .u64 0)] oF (aD .eql),.base ⟨98,[0,6],[oS 13],.cM [] 1⟩,.base ⟨98,[1,6],[oS 14],.cM [] 2⟩,.base ⟨97,[13,14,6],[oS 15],.cV [1,2] [1,2] [([1],[1]),([2],[2]),([],[])] false⟩,.freed (.one (.s 28 0)) 15 16,bQ [16] [oN 17] (aC 116),bQ [17,.lit (.ci .i64 1)] oF (ak .eql),.base ⟨100,[15,12,6],[oS 18],.cV [1,2] [1,2] [([1,2],[1,2]),([],[]),([],[])] false⟩,.base ⟨99,[.parts (.agg [.s,.b,.s]) [(0,1,7),(1,2,9)],18,6],[oL (.cb false),⟨.agg [.s,.b,.s],[(0,1,19),(1,2,20)]⟩],.fU [3,1,2] 3 3 [[3],[1,2],[]]⟩,.base ⟨95,[6],[oK 21],false⟩]
def Gy:List Step:=[bQ [6,.lit (.ci .u64 2)] oT (aD .gtr),.base ⟨96,[4,6],[oK 22],false⟩,bQ [22,.lit (.ci .u64 0)] oF (aD .eql),.base ⟨98,[0,6],[oS 23],.cM [] 1⟩,.base ⟨98,[1,6],[oS 24],.cM [] 2⟩,.base ⟨97,[23,24,6],[oS 25],.cV [1,2] [1,2] [([1],[1]),([2],[2]),([],[])] false⟩,.freed (.one (.s 28 0)) 25 26,bQ [26] [oN 27] (aC 116),bQ [27,.lit (.ci .i64 1)] oF (ak .eql),.base ⟨100,[25,22,6],[oS 28],.cV [1,2] [1,2] [([1,2],[1,2]),([],[]),([],[])] false⟩,.base ⟨99,[.parts (.agg [.s,.b,.s]) [(0,1,7),(1,2,9)],28,6],[oL (.cb false),⟨.agg [.s,.b,.s],[(0,1,29),(1,2,30)]⟩],.fU [3,1,2] 3 3 [[3],[1,2],[]]⟩,.base ⟨95,[6],[oK 31],false⟩]
def Gz:List Step:=[bQ [6,.lit (.ci .u64 2)] oT (aD .gtr),.base ⟨96,[4,6],[oK 32],false⟩,bQ [32,.lit (.ci .u64 0)] oF (aD .eql),.base ⟨98,[0,6],[oS 33],.cM [] 1⟩,.base ⟨98,[1,6],[oS 34],.cM [] 2⟩,.base ⟨97,[33,34,6],[oS 35],.cV [1,2] [1,2] [([1],[1]),([2],[2]),([],[])] false⟩,.freed (.one (.s 28 0)) 35 36,bQ [36] [oN 37] (aC 116),bQ [37,.lit (.ci .i64 1)] oF (ak .eql),.base ⟨100,[35,32,6],[oS 38],.cV [1,2] [1,2] [([1,2],[1,2]),([],[]),([],[])] false⟩,.base ⟨99,[.parts (.agg [.s,.b,.s]) [(0,1,7),(1,2,9)],38,6],[oL (.cb true),⟨.agg [.s,.b,.s],[(0,1,39),(1,2,40)]⟩],.fU [3,1,2] 3 3 [[3],[1,2],[]]⟩,.base ⟨33,[39],[oI 41,oS 42],.cC [3] true⟩,.base ⟨101,[42,0],oF,.cC [3] false⟩,.base ⟨95,[6],[oK 43],false⟩]
def GA:List Step:=[bQ [6,.lit (.ci .u64 2)] oT (aD .gtr),.base ⟨96,[4,6],[oK 44],false⟩,bQ [44,.lit (.ci .u64 0)] oF (aD .eql),.base ⟨98,[0,6],[oS 45],.cM [] 1⟩,.base ⟨98,[1,6],[oS 46],.cM [] 2⟩,.base ⟨97,[45,46,6],[oS 47],.cV [1,2] [1,2] [([1],[1]),([2],[2]),([],[])] false⟩,.freed (.one (.s 28 0)) 47 48,bQ [48] [oN 49] (aC 116),bQ [49,.lit (.ci .i64 1)] oF (ak .eql),.base ⟨100,[47,44,6],[oS 50],.cV [1,2] [1,2] [([1,2],[1,2]),([],[]),([],[])] false⟩,.base ⟨99,[.parts (.agg [.s,.b,.s]) [(0,1,7),(1,2,9)],50,6],[oL (.cb true),⟨.agg [.s,.b,.s],[(0,1,51),(1,2,52)]⟩],.fU [3,1,2] 3 3 [[3],[1,2],[]]⟩,.base ⟨33,[51],[oI 53,oS 54],.cC [3] true⟩,.base ⟨101,[54,0],oT,.cC [3] false⟩,.base ⟨101,[54,1],oF,.cC [3] false⟩,.base ⟨95,[6],[oK 55],false⟩]
def Xk:List Step:=[bQ [6,.lit (.ci .u64 2)] oT (aD .gtr),.base ⟨96,[4,6],[oK 56],false⟩,bQ [56,.lit (.ci .u64 0)] oF (aD .eql),.base ⟨98,[0,6],[oS 57],.cM [] 1⟩,.base ⟨98,[1,6],[oS 58],.cM [] 2⟩,.base ⟨97,[57,58,6],[oS 59],.cV [1,2] [1,2] [([1],[1]),([2],[2]),([],[])] false⟩,.freed (.one (.s 28 0)) 59 60,bQ [60] [oN 61] (aC 116),bQ [61,.lit (.ci .i64 1)] oF (ak .eql),.base ⟨100,[59,56,6],[oS 62],.cV [1,2] [1,2] [([1,2],[1,2]),([],[]),([],[])] false⟩,.base ⟨99,[.parts (.agg [.s,.b,.s]) [(0,1,7),(1,2,9)],62,6],[oL (.cb true),⟨.agg [.s,.b,.s],[(0,1,63),(1,2,64)]⟩],.fU [3,1,2] 3 3 [[3],[1,2],[]]⟩,.base ⟨33,[63],[oI 65,oS 66],.cC [3] true⟩,.base ⟨101,[66,0],oT,.cC [3] false⟩,.base ⟨101,[66,1],oT,.cC [3] false⟩]
def Xl:List Step:=[.base ⟨64,[0],[oI 2],false⟩,.base ⟨64,[1],[oI 3],false⟩,.base ⟨89,[.row 2 [2,3]],[oI 4],false⟩,.loop Gv [(Gw,[.frm 11,.frm 7,.frm 0,.frm 9]),(Gx,[.frm 21,.frm 19,.frm 0,.frm 20]),(Gy,[.frm 31,.frm 29,.frm 0,.frm 30]),(Gz,[.frm 43,.frm 39,.frm 0,.frm 40]),(GA,[.frm 55,.frm 51,.frm 0,.frm 52])] Xk]
def Xm:List Out:=[oS 0,oS 1]
open Classical in
set_option maxHeartbeats 4000000 in
theorem Xn  (hla:la<=1000) (hlb:lb<=1000) (nd:0<la) (me:0<lb) (hka:ka<=100) (hkb:kb<=100) (ha0:∀i,la<=i->a i=0) (hb0:∀i,lb<=i->b i=0) (hta:tl a la=la) (htb:tl b lb=lb) (hba:∀i,Bd (a i).natAbs ka) (hbb:∀i,Bd (b i).natAbs kb) (hsz:(la+lb+1)*258<=80000)
  (hlead:((Int.gcd (a (la-1)) (b (lb-1)):Nat):Int)=lead) (hJn:∀j,j<J->¬jK a b lead l x j)
  (hLL:∀k,ig (prK k) (img (prK k) a) (tl (img (prK k) a) la) (img (prK k) b) (tl (img (prK k) b) lb)=l k) (hGG:∀k,imG (prK k) (img (prK k) a) (tl (img (prK k) a) la) (img (prK k) b) (tl (img (prK k) b) lb)=gg k) (hXX:∀k,scl (prK k) (lead % ((prK k:Nat):Int)) (gg k)=x k)
  (hNe:∀k,k<=J->lead % ((prK k:Nat):Int)≠0->0<tl (img (prK k) a) la∨0<tl (img (prK k) b) lb) (hGV:∀k,k<=J->lead % ((prK k:Nat):Int)≠0->(∀i,0<=gg k i∧gg k i<((prK k:Nat):Int))∧0<l k∧l k<=1000)
  (hSB:∀k,k<=J+1->(∀i,Bd ((aw lead l x k).2.2 i).natAbs 257)∧Bd (aw lead l x k).2.1 258) (hSl:∀k,k<=J+1->(aw lead l x k).1<=1000) (hH:∀k,k<=J->lead % ((prK k:Nat):Int)≠0->¬dF lead l x k->0<(bc lead l x k).length∧tl (ae (bc lead l x k)) (bc lead l x k).length=(bc lead l x k).length∧(bc lead l x k).length<=1000∧∀i,Bd (ae (bc lead l x k) i).natAbs 257) (hLn:lead % ((prK J:Nat):Int)≠0) (hl1:l J≠1) (hNP:¬dF lead l x J) (hYJ:jJ lead l x J) (hda:el (ae (bc lead l x J)) a) (hdb:el (ae (bc lead l x J)) b) (hJ:J<256:=by omega):aj (ph (xH a b la lb ka kb J lead l x)) prog ⟨67,[0,1],[oS 5],false⟩:=aV Xm [oS 5] Xl func67 (by kernel_rfl) (lB (kD (z:=a) (n:=la) (Rw.To 2 (fun ι w v=>aE w v (a ι) ka) la (fun _ _ _ _ h=>h)) rfl (by omega) (by omega) (by rw [dc,hta,if_neg (by omega)])) (lB (kD (z:=b) (n:=lb) (Rw.To 2 (fun ι w v=>aE w v (b ι) kb) lb (fun _ _ _ _ h=>h)) rfl (by omega) (by omega) (by rw [dc,htb,if_neg (by omega)])) (lB (GB (ka+kb) nI nI rfl hlead) (bk (counted J (fun j=>ph (xH a b la lb ka kb J lead l x ++ Xj a b la lb lead l gg x j)) (fun j=>if lead % ((prK j:Nat):Int)=0 then 0 else if dF lead l x j then 1 else if ¬jJ lead l x j then 2 else if ¬el (ae (bc lead l x j)) a then 3 else 4) (fun j p hp=>bm (show p<(xH a b la lb ka kb J lead l x).length from hp)) ⟨fun _=>rfl,fun w=>Gp w,aP,fun w=>ai.zero w 258,trivial⟩ (fun j hj=>by
   have hP:=qM (k:=j);have hPp:=fY (k:=j);have hm0:=Int.emod_nonneg lead (b:=((prK j:Nat):Int)) (by omega);have hm1:=Int.emod_lt_of_pos lead (b:=((prK j:Nat):Int)) (by omega)
   by_cases hcj:lead % ((prK j:Nat):Int)=0
   ·skip
    exact ⟨(Gw,[.frm 11,.frm 7,.frm 0,.frm 9]),by rw [if_pos hcj];rfl,⟨ad,fun _ _ h=>Gs hcj h,aP,fun _ _ h=>Gt hcj h,trivial⟩,(lB (ugT ad) (lB (eN (P:=(prK j)) nI ad rfl) (lB (dl (op:=.eql) ad (cA (beq_iff_eq.2 hcj) (by simp))) (lB (jX (k:=j) ad rfl (jZ)) au))))⟩
   by_cases hdj:dF lead l x j
   ·have aX:lead % ((prK j:Nat):Int)≠0:=hcj;have fx:=hNe j (by omega) aX;have hGr:=(hGV j (by omega) aX).1;have hLl:=(hGV j (by omega) aX).2;have ht1:=aL (img (prK j) a) la;have ht2:=aL (img (prK j) b) lb;have hs0:=hSl j (by omega);have hs1:=hSl (j+1) (by omega);have hXr:∀i,0<=x j i∧x j i<((prK j:Nat):Int):=fun i=>(by rw [<- hXX j];exact jh (by omega) _ _ i);have hl1:l j≠1:=fun e=>hJn j hj ⟨aX,.inl e⟩;have hPs:=hdj
    exact ⟨(Gx,[.frm 21,.frm 19,.frm 0,.frm 20]),by rw [if_neg hcj,if_pos hdj];rfl,⟨ad,ad,aP,ad,trivial⟩,(lB (ugT ad) (lB (eN (P:=(prK j)) nI ad rfl) (lB (dl (op:=.eql) ad (cA (beq_eq_false_iff_ne.2 aX) (by simp))) (lB (fh (P:=(prK j)) (Rw.To 2 (If a ka) la (fun _ _ _ _ h=>h)) ad rfl) (lB (fh (P:=(prK j)) (Rw.To 2 (If b kb) lb (fun _ _ _ _ h=>h)) ad rfl) (lB (kf (hGG j) (hLL j) ad ad ad rfl hPp (eg ha0) (eg hb0) fx) (cR (de (e:=99) (sz:=1) (n:=(l j)) (F:=(aA .u64 (gg j))) ad rfl) (lB (ch (n:=(l j)) underlying116 ad rfl) (lB (dg ad) (lB (kW (hXX j) (js:=[1,2]) ad ad ad rfl ⟨by omega,by omega⟩ hGr) (lB (Gu ad ad (fun _ _ h=>ah.rw h) ad rfl rfl aX hPs) (lB (jX (k:=j) ad rfl (jZ)) au))))))))))))⟩
   by_cases hej:¬jJ lead l x j
   ·have aX:lead % ((prK j:Nat):Int)≠0:=hcj;have fx:=hNe j (by omega) aX;have hGr:=(hGV j (by omega) aX).1;have hLl:=(hGV j (by omega) aX).2;have ht1:=aL (img (prK j) a) la;have ht2:=aL (img (prK j) b) lb;have hs0:=hSl j (by omega);have hs1:=hSl (j+1) (by omega);have hXr:∀i,0<=x j i∧x j i<((prK j:Nat):Int):=fun i=>(by rw [<- hXX j];exact jh (by omega) _ _ i);have hl1:l j≠1:=fun e=>hJn j hj ⟨aX,.inl e⟩;have hNP:¬dF lead l x j:=hdj;have hB1:∀i,Bd ((aw lead l x (j+1)).2.2 i).natAbs 257:=(hSB (j+1) (by omega)).1;have hBM:=(hSB (j+1) (by omega)).2;have hS1:(aw lead l x (j+1)).1=l j:=ke aX hNP;have hNY:=Gn hej
    exact ⟨(Gy,[.frm 31,.frm 29,.frm 0,.frm 30]),by rw [if_neg hcj,if_neg hdj,if_pos hej];rfl,⟨ad,ad,aP,ad,trivial⟩,(lB (ugT ad) (lB (eN (P:=(prK j)) nI ad rfl) (lB (dl (op:=.eql) ad (cA (beq_eq_false_iff_ne.2 aX) (by simp))) (lB (fh (P:=(prK j)) (Rw.To 2 (If a ka) la (fun _ _ _ _ h=>h)) ad rfl) (lB (fh (P:=(prK j)) (Rw.To 2 (If b kb) lb (fun _ _ _ _ h=>h)) ad rfl) (lB (kf (hGG j) (hLL j) ad ad ad rfl hPp (eg ha0) (eg hb0) fx) (cR (de (e:=99) (sz:=1) (n:=(l j)) (F:=(aA .u64 (gg j))) ad rfl) (lB (ch (n:=(l j)) underlying116 ad rfl) (lB (dg ad) (lB (kW (hXX j) (js:=[1,2]) ad ad ad rfl ⟨by omega,by omega⟩ hGr) (lB (nc ad ad (fun _ _ h=>ah.rw h) ad rfl rfl aX hNP hXr hB1 hBM hNY) (lB (jX (k:=j) ad rfl (jZ)) au))))))))))))⟩
   by_cases hfj:¬el (ae (bc lead l x j)) a
   ·have aX:lead % ((prK j:Nat):Int)≠0:=hcj;have fx:=hNe j (by omega) aX;have hGr:=(hGV j (by omega) aX).1;have hLl:=(hGV j (by omega) aX).2;have ht1:=aL (img (prK j) a) la;have ht2:=aL (img (prK j) b) lb;have hs0:=hSl j (by omega);have hs1:=hSl (j+1) (by omega);have hXr:∀i,0<=x j i∧x j i<((prK j:Nat):Int):=fun i=>(by rw [<- hXX j];exact jh (by omega) _ _ i);have hl1:l j≠1:=fun e=>hJn j hj ⟨aX,.inl e⟩;have hNP:¬dF lead l x j:=hdj;have hB1:∀i,Bd ((aw lead l x (j+1)).2.2 i).natAbs 257:=(hSB (j+1) (by omega)).1;have hBM:=(hSB (j+1) (by omega)).2;have hS1:(aw lead l x (j+1)).1=l j:=ke aX hNP;obtain ⟨hH0,hHt,hHl,hHb⟩:=hH j (by omega) aX hNP;have hY:=qN (Classical.not_not.1 hej)
    exact ⟨(Gz,[.frm 43,.frm 39,.frm 0,.frm 40]),by rw [if_neg hcj,if_neg hdj,if_neg hej,if_pos hfj];rfl,⟨ad,ad,aP,ad,trivial⟩,(lB (ugT ad) (lB (eN (P:=(prK j)) nI ad rfl) (lB (dl (op:=.eql) ad (cA (beq_eq_false_iff_ne.2 aX) (by simp))) (lB (fh (P:=(prK j)) (Rw.To 2 (If a ka) la (fun _ _ _ _ h=>h)) ad rfl) (lB (fh (P:=(prK j)) (Rw.To 2 (If b kb) lb (fun _ _ _ _ h=>h)) ad rfl) (lB (kf (hGG j) (hLL j) ad ad ad rfl hPp (eg ha0) (eg hb0) fx) (cR (de (e:=99) (sz:=1) (n:=(l j)) (F:=(aA .u64 (gg j))) ad rfl) (lB (ch (n:=(l j)) underlying116 ad rfl) (lB (dg ad) (lB (kW (hXX j) (js:=[1,2]) ad ad ad rfl ⟨by omega,by omega⟩ hGr) (lB (nc ad ad (fun _ _ h=>ah.rw h) ad rfl rfl aX hNP hXr hB1 hBM hY) (lB (cS [3] (qO (k:=j) (l:=l) (x:=x) (lead:=lead) (fun _ _ h=>ah.rw h) rfl rfl aX hNP)) (lB (cS [3] (mg (z:=a) (y:=ae (bc lead l x j)) (Rw.To 2 (Nf (ae (bc lead l x j)) 257) ((bc lead l x j).length) (fun _ _ _ _ h=>ai.i h)) (Rw.To 2 (If a ka) la (fun _ _ _ _ h=>h)) hba hHb ha0 hta (fun i hi=>ep hi) hHt hH0 (by simp only [Bool.false_eq_true,false_iff];exact hfj))) (lB (jX (k:=j) ad rfl (jZ)) au))))))))))))))⟩
   ·have aX:lead % ((prK j:Nat):Int)≠0:=hcj;have fx:=hNe j (by omega) aX;have hGr:=(hGV j (by omega) aX).1;have hLl:=(hGV j (by omega) aX).2;have ht1:=aL (img (prK j) a) la;have ht2:=aL (img (prK j) b) lb;have hs0:=hSl j (by omega);have hs1:=hSl (j+1) (by omega);have hXr:∀i,0<=x j i∧x j i<((prK j:Nat):Int):=fun i=>(by rw [<- hXX j];exact jh (by omega) _ _ i);have hl1:l j≠1:=fun e=>hJn j hj ⟨aX,.inl e⟩;have hNP:¬dF lead l x j:=hdj;have hB1:∀i,Bd ((aw lead l x (j+1)).2.2 i).natAbs 257:=(hSB (j+1) (by omega)).1;have hBM:=(hSB (j+1) (by omega)).2;have hS1:(aw lead l x (j+1)).1=l j:=ke aX hNP;obtain ⟨hH0,hHt,hHl,hHb⟩:=hH j (by omega) aX hNP;have hY:=qN (Classical.not_not.1 hej);have hda:=Classical.not_not.1 hfj;have hdb:¬el (ae (bc lead l x j)) b:=fun h=>hJn j hj ⟨aX,.inr ⟨hNP,Classical.not_not.1 hej,hda,h⟩⟩
    exact ⟨(GA,[.frm 55,.frm 51,.frm 0,.frm 52]),by rw [if_neg hcj,if_neg hdj,if_neg hej,if_neg hfj];rfl,⟨ad,ad,aP,ad,trivial⟩,(lB (ugT ad) (lB (eN (P:=(prK j)) nI ad rfl) (lB (dl (op:=.eql) ad (cA (beq_eq_false_iff_ne.2 aX) (by simp))) (lB (fh (P:=(prK j)) (Rw.To 2 (If a ka) la (fun _ _ _ _ h=>h)) ad rfl) (lB (fh (P:=(prK j)) (Rw.To 2 (If b kb) lb (fun _ _ _ _ h=>h)) ad rfl) (lB (kf (hGG j) (hLL j) ad ad ad rfl hPp (eg ha0) (eg hb0) fx) (cR (de (e:=99) (sz:=1) (n:=(l j)) (F:=(aA .u64 (gg j))) ad rfl) (lB (ch (n:=(l j)) underlying116 ad rfl) (lB (dg ad) (lB (kW (hXX j) (js:=[1,2]) ad ad ad rfl ⟨by omega,by omega⟩ hGr) (lB (nc ad ad (fun _ _ h=>ah.rw h) ad rfl rfl aX hNP hXr hB1 hBM hY) (lB (cS [3] (qO (k:=j) (l:=l) (x:=x) (lead:=lead) (fun _ _ h=>ah.rw h) rfl rfl aX hNP)) (lB (cS [3] (mg (z:=a) (y:=ae (bc lead l x j)) (Rw.To 2 (Nf (ae (bc lead l x j)) 257) ((bc lead l x j).length) (fun _ _ _ _ h=>ai.i h)) (Rw.To 2 (If a ka) la (fun _ _ _ _ h=>h)) hba hHb ha0 hta (fun i hi=>ep hi) hHt hH0 (by simp only [true_iff];exact hda))) (lB (cS [3] (mg (z:=b) (y:=ae (bc lead l x j)) (Rw.To 2 (Nf (ae (bc lead l x j)) 257) ((bc lead l x j).length) (fun _ _ _ _ h=>ai.i h)) (Rw.To 2 (If b kb) lb (fun _ _ _ _ h=>h)) hbb hHb hb0 htb (fun i hi=>ep hi) hHt hH0 (by simp only [Bool.false_eq_true,false_iff];exact hdb))) (lB (jX (k:=j) ad rfl (jZ)) au)))))))))))))))⟩
)
   (by
   have hP:=qM (k:=J);have hPp:=fY (k:=J);have hm0:=Int.emod_nonneg lead (b:=((prK J:Nat):Int)) (by omega);have hm1:=Int.emod_lt_of_pos lead (b:=((prK J:Nat):Int)) (by omega);have aX:lead % ((prK J:Nat):Int)≠0:=hLn;have fx:=hNe J (by omega) aX;have hGr:=(hGV J (by omega) aX).1;have hLl:=(hGV J (by omega) aX).2;have ht1:=aL (img (prK J) a) la;have ht2:=aL (img (prK J) b) lb;have hs0:=hSl J (by omega);have hs1:=hSl (J+1) (Nat.le_refl _);have hXr:∀i,0<=x J i∧x J i<((prK J:Nat):Int):=fun i=>(by rw [<- hXX J];exact jh (by omega) _ _ i);have hB1:=(hSB (J+1) (by omega)).1;have hBM:=(hSB (J+1) (by omega)).2;have hS1:(aw lead l x (J+1)).1=l J:=ke aX hNP;have hY:=qN hYJ;obtain ⟨hH0,hHt,hHl,hHb⟩:=hH J (by omega) aX hNP
   exact (lB (ugT ad) (lB (eN (P:=(prK (J))) nI ad rfl) (lB (dl (op:=.eql) ad (cA (beq_eq_false_iff_ne.2 hLn) (by simp))) (lB (fh (P:=(prK (J))) (Rw.To 2 (If a ka) la (fun _ _ _ _ h=>h)) ad rfl) (lB (fh (P:=(prK (J))) (Rw.To 2 (If b kb) lb (fun _ _ _ _ h=>h)) ad rfl) (lB (kf (hGG (J)) (hLL (J)) ad ad ad rfl hPp (eg ha0) (eg hb0) fx) (cR (de (e:=99) (sz:=1) (n:=(l (J))) (F:=(aA .u64 (gg (J)))) ad rfl) (lB (ch (n:=(l (J))) underlying116 ad rfl) (lB (dg ad) (lB (kW (hXX (J)) (js:=[1,2]) ad ad ad rfl ⟨by omega,by omega⟩ hGr) (lB (nc ad ad (fun _ _ h=>ah.rw h) ad rfl rfl aX hNP hXr hB1 hBM hY) (lB (cS [3] (qO (k:=(J)) (l:=l) (x:=x) (lead:=lead) (fun _ _ h=>ah.rw h) rfl rfl aX hNP)) (lB (cS [3] (mg (z:=a) (y:=ae (bc lead l x (J))) (Rw.To 2 (Nf (ae (bc lead l x (J))) 257) ((bc lead l x (J)).length) (fun _ _ _ _ h=>ai.i h)) (Rw.To 2 (If a ka) la (fun _ _ _ _ h=>h)) hba hHb ha0 hta (fun i hi=>ep hi) hHt hH0 (by simp only [true_iff];exact hda))) (lB (cS [3] (mg (z:=b) (y:=ae (bc lead l x (J))) (Rw.To 2 (Nf (ae (bc lead l x (J))) 257) ((bc lead l x (J)).length) (fun _ _ _ _ h=>ai.i h)) (Rw.To 2 (If b kb) lb (fun _ _ _ _ h=>h)) hbb hHb hb0 htb (fun i hi=>ep hi) hHt hH0 (by simp only [true_iff];exact hdb))) au)))))))))))))))
   (fun q hq w v h=>by
    simp only [Gv,List.mem_cons,List.not_mem_nil,or_false] at hq
    rcases hq with rfl
    ·exact (fun h=>h) h)) au))))
  (aK [.fact 0 (.one (.s)),.fact 1 (.one (.s))] ⟨Rw.Is 2 (If a ka) la,Rw.Is 2 (If b kb) lb,trivial⟩) bg
def xJ (a b:Nat->Int) (la lb ka kb:Nat) (lead:Int):List WP:=[Rw 2 (If a ka) la,Rw 2 (If b kb) lb,Nw (a (la-1)) ka,Nw (b (lb-1)) kb,Nw lead (ka+kb),Ni 1,fun w v=>Rw 1 (fun i _ v=>v = .agg #[.int .i64 ((fun _=>1) i)]) 1 w v,Rw 2 (Nf (ae [1]) 2) (([1]:List Int).length)]
def Xo (a b:Nat->Int) (la lb:Nat) (lead:Int) (l:Nat->Nat) (gg x:Nat->Nat->Int) (j:Nat):List WP:=[Nu ((prK j:Nat):Int),ah 2 57 (Nf ((aw lead l x j).2.2) 257) ((aw lead l x j).1),fun _ _=>True,Nw (((aw lead l x j).2.1:Nat):Int) 258,Nu (lead % (((prK j):Nat):Int)),Nu ((prK (j+1):Nat):Int),Nu (lead % (((prK j):Nat):Int)),ah 1 99 (aA .u64 (img (prK j) a)) (tl (img (prK j) a) la),ah 1 99 (aA .u64 (img (prK j) b)) (tl (img (prK j) b) lb),ah 1 99 (aA .u64 (gg j)) (l j),cw (l j),Nz (l j),ah 1 99 (aA .u64 (x j)) (l j),fun w v=>ah 2 57 (fun ι w v=>ai w v ((aw lead l x (j+1)).2.2 ι) 257) ((aw lead l x (j+1)).1) w v,Nw (((aw lead l x (j+1)).2.1:Nat):Int) 258,Nu ((prK (j+1):Nat):Int),Nu (lead % (((prK j):Nat):Int)),ah 1 99 (aA .u64 (img (prK j) a)) (tl (img (prK j) a) la),ah 1 99 (aA .u64 (img (prK j) b)) (tl (img (prK j) b) lb),ah 1 99 (aA .u64 (gg j)) (l j),cw (l j),Nz (l j),ah 1 99 (aA .u64 (x j)) (l j),fun w v=>ah 2 57 (fun ι w v=>ai w v ((aw lead l x (j+1)).2.2 ι) 257) ((aw lead l x (j+1)).1) w v,Nw (((aw lead l x (j+1)).2.1:Nat):Int) 258,Nu ((prK (j+1):Nat):Int),Nu (lead % (((prK j):Nat):Int)),ah 1 99 (aA .u64 (img (prK j) a)) (tl (img (prK j) a) la),ah 1 99 (aA .u64 (img (prK j) b)) (tl (img (prK j) b) lb),ah 1 99 (aA .u64 (gg j)) (l j),cw (l j),Nz (l j),ah 1 99 (aA .u64 (x j)) (l j),fun w v=>ah 2 57 (fun ι w v=>ai w v ((aw lead l x (j+1)).2.2 ι) 257) ((aw lead l x (j+1)).1) w v,Nw (((aw lead l x (j+1)).2.1:Nat):Int) 258,Nw (ba (aw lead l x (j+1)).2.2 (aw lead l x (j+1)).1) 257,Rw 2 (Nf (ae (bc lead l x j)) 257) ((bc lead l x j).length),Nu ((prK (j+1):Nat):Int),Nu (lead % (((prK j):Nat):Int)),ah 1 99 (aA .u64 (img (prK j) a)) (tl (img (prK j) a) la),ah 1 99 (aA .u64 (img (prK j) b)) (tl (img (prK j) b) lb),ah 1 99 (aA .u64 (gg j)) (l j),cw (l j),Nz (l j),ah 1 99 (aA .u64 (x j)) (l j),fun w v=>ah 2 57 (fun ι w v=>ai w v ((aw lead l x (j+1)).2.2 ι) 257) ((aw lead l x (j+1)).1) w v,Nw (((aw lead l x (j+1)).2.1:Nat):Int) 258,Nw (ba (aw lead l x (j+1)).2.2 (aw lead l x (j+1)).1) 257,Rw 2 (Nf (ae (bc lead l x j)) 257) ((bc lead l x j).length),Nu ((prK (j+1):Nat):Int),Nu (lead % (((prK j):Nat):Int)),ah 1 99 (aA .u64 (img (prK j) a)) (tl (img (prK j) a) la),ah 1 99 (aA .u64 (img (prK j) b)) (tl (img (prK j) b) lb),ah 1 99 (aA .u64 (gg j)) (l j),cw (l j),Nz (l j)]
def Xp:bf:=⟨[0,1,4,5,6,12,13,14,15,16,17],[(.slot 7,.nk),(.cell 10 0,.s),(.cell 10 1,.b),(.cell 10 2,.s)],[(.one 0,8),(.one 1,.bB [3] 9),(.one 1,.lo 3),(.agg [2,3],.bB [3] 11)],[.closed (.one (.ci .u64 2147483647)),.closed (.one (.nl)),.frm 0,.closed (.agg [.cb false,.nl])],8,[]⟩
def GC:List Step:=[bQ [8,.lit (.ci .u64 2)] oT (aD .gtr),.base ⟨96,[4,8],[oK 12],false⟩,bQ [12,.lit (.ci .u64 0)] oT (aD .eql),.base ⟨95,[8],[oK 13],false⟩]
def GD:List Step:=[bQ [8,.lit (.ci .u64 2)] oT (aD .gtr),.base ⟨96,[4,8],[oK 14],false⟩,bQ [14,.lit (.ci .u64 0)] oF (aD .eql),.base ⟨98,[0,8],[oS 15],.cM [] 1⟩,.base ⟨98,[1,8],[oS 16],.cM [] 2⟩,.base ⟨97,[15,16,8],[oS 17],.cV [1,2] [1,2] [([1],[1]),([2],[2]),([],[])] false⟩,.freed (.one (.s 28 0)) 17 18,bQ [18] [oN 19] (aC 116),bQ [19,.lit (.ci .i64 1)] oF (ak .eql),.base ⟨100,[17,14,8],[oS 20],.cV [1,2] [1,2] [([1,2],[1,2]),([],[]),([],[])] false⟩,.base ⟨99,[.parts (.agg [.s,.b,.s]) [(0,1,9),(1,2,11)],20,8],[oL (.cb false),⟨.agg [.s,.b,.s],[(0,1,21),(1,2,22)]⟩],.fU [3,1,2] 3 3 [[3],[1,2],[]]⟩,.base ⟨95,[8],[oK 23],false⟩]
def GE:List Step:=[bQ [8,.lit (.ci .u64 2)] oT (aD .gtr),.base ⟨96,[4,8],[oK 24],false⟩,bQ [24,.lit (.ci .u64 0)] oF (aD .eql),.base ⟨98,[0,8],[oS 25],.cM [] 1⟩,.base ⟨98,[1,8],[oS 26],.cM [] 2⟩,.base ⟨97,[25,26,8],[oS 27],.cV [1,2] [1,2] [([1],[1]),([2],[2]),([],[])] false⟩,.freed (.one (.s 28 0)) 27 28,bQ [28] [oN 29] (aC 116),bQ [29,.lit (.ci .i64 1)] oF (ak .eql),.base ⟨100,[27,24,8],[oS 30],.cV [1,2] [1,2] [([1,2],[1,2]),([],[]),([],[])] false⟩,.base ⟨99,[.parts (.agg [.s,.b,.s]) [(0,1,9),(1,2,11)],30,8],[oL (.cb false),⟨.agg [.s,.b,.s],[(0,1,31),(1,2,32)]⟩],.fU [3,1,2] 3 3 [[3],[1,2],[]]⟩,.base ⟨95,[8],[oK 33],false⟩]
def GF:List Step:=[bQ [8,.lit (.ci .u64 2)] oT (aD .gtr),.base ⟨96,[4,8],[oK 34],false⟩,bQ [34,.lit (.ci .u64 0)] oF (aD .eql),.base ⟨98,[0,8],[oS 35],.cM [] 1⟩,.base ⟨98,[1,8],[oS 36],.cM [] 2⟩,.base ⟨97,[35,36,8],[oS 37],.cV [1,2] [1,2] [([1],[1]),([2],[2]),([],[])] false⟩,.freed (.one (.s 28 0)) 37 38,bQ [38] [oN 39] (aC 116),bQ [39,.lit (.ci .i64 1)] oF (ak .eql),.base ⟨100,[37,34,8],[oS 40],.cV [1,2] [1,2] [([1,2],[1,2]),([],[]),([],[])] false⟩,.base ⟨99,[.parts (.agg [.s,.b,.s]) [(0,1,9),(1,2,11)],40,8],[oL (.cb true),⟨.agg [.s,.b,.s],[(0,1,41),(1,2,42)]⟩],.fU [3,1,2] 3 3 [[3],[1,2],[]]⟩,.base ⟨33,[41],[oI 43,oS 44],.cC [3] true⟩,.base ⟨101,[44,0],oF,.cC [3] false⟩,.base ⟨95,[8],[oK 45],false⟩]
def GG:List Step:=[bQ [8,.lit (.ci .u64 2)] oT (aD .gtr),.base ⟨96,[4,8],[oK 46],false⟩,bQ [46,.lit (.ci .u64 0)] oF (aD .eql),.base ⟨98,[0,8],[oS 47],.cM [] 1⟩,.base ⟨98,[1,8],[oS 48],.cM [] 2⟩,.base ⟨97,[47,48,8],[oS 49],.cV [1,2] [1,2] [([1],[1]),([2],[2]),([],[])] false⟩,.freed (.one (.s 28 0)) 49 50,bQ [50] [oN 51] (aC 116),bQ [51,.lit (.ci .i64 1)] oF (ak .eql),.base ⟨100,[49,46,8],[oS 52],.cV [1,2] [1,2] [([1,2],[1,2]),([],[]),([],[])] false⟩,.base ⟨99,[.parts (.agg [.s,.b,.s]) [(0,1,9),(1,2,11)],52,8],[oL (.cb true),⟨.agg [.s,.b,.s],[(0,1,53),(1,2,54)]⟩],.fU [3,1,2] 3 3 [[3],[1,2],[]]⟩,.base ⟨33,[53],[oI 55,oS 56],.cC [3] true⟩,.base ⟨101,[56,0],oT,.cC [3] false⟩,.base ⟨101,[56,1],oF,.cC [3] false⟩,.base ⟨95,[8],[oK 57],false⟩]
def Xq:List Step:=[bQ [8,.lit (.ci .u64 2)] oT (aD .gtr),.base ⟨96,[4,8],[oK 58],false⟩,bQ [58,.lit (.ci .u64 0)] oF (aD .eql),.base ⟨98,[0,8],[oS 59],.cM [] 1⟩,.base ⟨98,[1,8],[oS 60],.cM [] 2⟩,.base ⟨97,[59,60,8],[oS 61],.cV [1,2] [1,2] [([1],[1]),([2],[2]),([],[])] false⟩,.freed (.one (.s 28 0)) 61 62,bQ [62] [oN 63] (aC 116),bQ [63,.lit (.ci .i64 1)] oT (ak .eql)]
def Xr:List Step:=[.base ⟨64,[0],[oI 2],false⟩,.base ⟨64,[1],[oI 3],false⟩,.base ⟨89,[.row 2 [2,3]],[oI 4],false⟩,.loop Xp [(GC,[.frm 13,.frm 9,.frm 0,.frm 11]),(GD,[.frm 23,.frm 21,.frm 0,.frm 22]),(GE,[.frm 33,.frm 31,.frm 0,.frm 32]),(GF,[.frm 45,.frm 41,.frm 0,.frm 42]),(GG,[.frm 57,.frm 53,.frm 0,.frm 54])] Xq,.derive (.one (.ci .i64 1)) (.one (.lit (.ci .i64 1))) [] 5,.base ⟨0,[.any,5],[oS 6],.loose [] 11 0 (dq 22 1)⟩,.base ⟨20,[6],[oS 7],.cC [11] false⟩]
def Xs:List Out:=[oS 0,oS 1]
open Classical in
set_option maxHeartbeats 4000000 in
theorem Xt  (hla:la<=1000) (hlb:lb<=1000) (nd:0<la) (me:0<lb) (hka:ka<=100) (hkb:kb<=100) (ha0:∀i,la<=i->a i=0) (hb0:∀i,lb<=i->b i=0) (hta:tl a la=la) (htb:tl b lb=lb) (hba:∀i,Bd (a i).natAbs ka) (hbb:∀i,Bd (b i).natAbs kb) (hsz:(la+lb+1)*258<=80000)
  (hlead:((Int.gcd (a (la-1)) (b (lb-1)):Nat):Int)=lead) (hJn:∀j,j<J->¬jK a b lead l x j)
  (hLL:∀k,ig (prK k) (img (prK k) a) (tl (img (prK k) a) la) (img (prK k) b) (tl (img (prK k) b) lb)=l k) (hGG:∀k,imG (prK k) (img (prK k) a) (tl (img (prK k) a) la) (img (prK k) b) (tl (img (prK k) b) lb)=gg k) (hXX:∀k,scl (prK k) (lead % ((prK k:Nat):Int)) (gg k)=x k)
  (hNe:∀k,k<=J->lead % ((prK k:Nat):Int)≠0->0<tl (img (prK k) a) la∨0<tl (img (prK k) b) lb) (hGV:∀k,k<=J->lead % ((prK k:Nat):Int)≠0->(∀i,0<=gg k i∧gg k i<((prK k:Nat):Int))∧0<l k∧l k<=1000)
  (hSB:∀k,k<=J+1->(∀i,Bd ((aw lead l x k).2.2 i).natAbs 257)∧Bd (aw lead l x k).2.1 258) (hSl:∀k,k<=J+1->(aw lead l x k).1<=1000) (hH:∀k,k<=J->lead % ((prK k:Nat):Int)≠0->¬dF lead l x k->0<(bc lead l x k).length∧tl (ae (bc lead l x k)) (bc lead l x k).length=(bc lead l x k).length∧(bc lead l x k).length<=1000∧∀i,Bd (ae (bc lead l x k) i).natAbs 257) (hLn:lead % ((prK J:Nat):Int)≠0) (hl1:l J=1) (hJ:J<256:=by omega):aj (ph (xJ a b la lb ka kb lead)) prog ⟨67,[0,1],[oS 7],false⟩:=aV Xs [oS 7] Xr func67 (by kernel_rfl) (lB (kD (z:=a) (n:=la) (Rw.To 2 (fun ι w v=>aE w v (a ι) ka) la (fun _ _ _ _ h=>h)) rfl (by omega) (by omega) (by rw [dc,hta,if_neg (by omega)])) (lB (kD (z:=b) (n:=lb) (Rw.To 2 (fun ι w v=>aE w v (b ι) kb) lb (fun _ _ _ _ h=>h)) rfl (by omega) (by omega) (by rw [dc,htb,if_neg (by omega)])) (lB (GB (ka+kb) nI nI rfl hlead) (bk (counted J (fun j=>ph (xJ a b la lb ka kb lead ++ Xo a b la lb lead l gg x j)) (fun j=>if lead % ((prK j:Nat):Int)=0 then 0 else if dF lead l x j then 1 else if ¬jJ lead l x j then 2 else if ¬el (ae (bc lead l x j)) a then 3 else 4) (fun j p hp=>bm (show p<(xJ a b la lb ka kb lead).length from hp)) ⟨fun _=>rfl,fun w=>Gp w,aP,fun w=>ai.zero w 258,trivial⟩ (fun j hj=>by
   have hP:=qM (k:=j);have hPp:=fY (k:=j);have hm0:=Int.emod_nonneg lead (b:=((prK j:Nat):Int)) (by omega);have hm1:=Int.emod_lt_of_pos lead (b:=((prK j:Nat):Int)) (by omega)
   by_cases hcj:lead % ((prK j:Nat):Int)=0
   ·skip
    exact ⟨(GC,[.frm 13,.frm 9,.frm 0,.frm 11]),by rw [if_pos hcj];rfl,⟨ad,fun _ _ h=>Gs hcj h,aP,fun _ _ h=>Gt hcj h,trivial⟩,(lB (ugT ad) (lB (eN (P:=(prK j)) nI ad rfl) (lB (dl (op:=.eql) ad (cA (beq_iff_eq.2 hcj) (by simp))) (lB (jX (k:=j) ad rfl (jZ)) au))))⟩
   by_cases hdj:dF lead l x j
   ·have aX:lead % ((prK j:Nat):Int)≠0:=hcj;have fx:=hNe j (by omega) aX;have hGr:=(hGV j (by omega) aX).1;have hLl:=(hGV j (by omega) aX).2;have ht1:=aL (img (prK j) a) la;have ht2:=aL (img (prK j) b) lb;have hs0:=hSl j (by omega);have hs1:=hSl (j+1) (by omega);have hXr:∀i,0<=x j i∧x j i<((prK j:Nat):Int):=fun i=>(by rw [<- hXX j];exact jh (by omega) _ _ i);have hl1:l j≠1:=fun e=>hJn j hj ⟨aX,.inl e⟩;have hPs:=hdj
    exact ⟨(GD,[.frm 23,.frm 21,.frm 0,.frm 22]),by rw [if_neg hcj,if_pos hdj];rfl,⟨ad,ad,aP,ad,trivial⟩,(lB (ugT ad) (lB (eN (P:=(prK j)) nI ad rfl) (lB (dl (op:=.eql) ad (cA (beq_eq_false_iff_ne.2 aX) (by simp))) (lB (fh (P:=(prK j)) (Rw.To 2 (If a ka) la (fun _ _ _ _ h=>h)) ad rfl) (lB (fh (P:=(prK j)) (Rw.To 2 (If b kb) lb (fun _ _ _ _ h=>h)) ad rfl) (lB (kf (hGG j) (hLL j) ad ad ad rfl hPp (eg ha0) (eg hb0) fx) (cR (de (e:=99) (sz:=1) (n:=(l j)) (F:=(aA .u64 (gg j))) ad rfl) (lB (ch (n:=(l j)) underlying116 ad rfl) (lB (dg ad) (lB (kW (hXX j) (js:=[1,2]) ad ad ad rfl ⟨by omega,by omega⟩ hGr) (lB (Gu ad ad (fun _ _ h=>ah.rw h) ad rfl rfl aX hPs) (lB (jX (k:=j) ad rfl (jZ)) au))))))))))))⟩
   by_cases hej:¬jJ lead l x j
   ·have aX:lead % ((prK j:Nat):Int)≠0:=hcj;have fx:=hNe j (by omega) aX;have hGr:=(hGV j (by omega) aX).1;have hLl:=(hGV j (by omega) aX).2;have ht1:=aL (img (prK j) a) la;have ht2:=aL (img (prK j) b) lb;have hs0:=hSl j (by omega);have hs1:=hSl (j+1) (by omega);have hXr:∀i,0<=x j i∧x j i<((prK j:Nat):Int):=fun i=>(by rw [<- hXX j];exact jh (by omega) _ _ i);have hl1:l j≠1:=fun e=>hJn j hj ⟨aX,.inl e⟩;have hNP:¬dF lead l x j:=hdj;have hB1:∀i,Bd ((aw lead l x (j+1)).2.2 i).natAbs 257:=(hSB (j+1) (by omega)).1;have hBM:=(hSB (j+1) (by omega)).2;have hS1:(aw lead l x (j+1)).1=l j:=ke aX hNP;have hNY:=Gn hej
    exact ⟨(GE,[.frm 33,.frm 31,.frm 0,.frm 32]),by rw [if_neg hcj,if_neg hdj,if_pos hej];rfl,⟨ad,ad,aP,ad,trivial⟩,(lB (ugT ad) (lB (eN (P:=(prK j)) nI ad rfl) (lB (dl (op:=.eql) ad (cA (beq_eq_false_iff_ne.2 aX) (by simp))) (lB (fh (P:=(prK j)) (Rw.To 2 (If a ka) la (fun _ _ _ _ h=>h)) ad rfl) (lB (fh (P:=(prK j)) (Rw.To 2 (If b kb) lb (fun _ _ _ _ h=>h)) ad rfl) (lB (kf (hGG j) (hLL j) ad ad ad rfl hPp (eg ha0) (eg hb0) fx) (cR (de (e:=99) (sz:=1) (n:=(l j)) (F:=(aA .u64 (gg j))) ad rfl) (lB (ch (n:=(l j)) underlying116 ad rfl) (lB (dg ad) (lB (kW (hXX j) (js:=[1,2]) ad ad ad rfl ⟨by omega,by omega⟩ hGr) (lB (nc ad ad (fun _ _ h=>ah.rw h) ad rfl rfl aX hNP hXr hB1 hBM hNY) (lB (jX (k:=j) ad rfl (jZ)) au))))))))))))⟩
   by_cases hfj:¬el (ae (bc lead l x j)) a
   ·have aX:lead % ((prK j:Nat):Int)≠0:=hcj;have fx:=hNe j (by omega) aX;have hGr:=(hGV j (by omega) aX).1;have hLl:=(hGV j (by omega) aX).2;have ht1:=aL (img (prK j) a) la;have ht2:=aL (img (prK j) b) lb;have hs0:=hSl j (by omega);have hs1:=hSl (j+1) (by omega);have hXr:∀i,0<=x j i∧x j i<((prK j:Nat):Int):=fun i=>(by rw [<- hXX j];exact jh (by omega) _ _ i);have hl1:l j≠1:=fun e=>hJn j hj ⟨aX,.inl e⟩;have hNP:¬dF lead l x j:=hdj;have hB1:∀i,Bd ((aw lead l x (j+1)).2.2 i).natAbs 257:=(hSB (j+1) (by omega)).1;have hBM:=(hSB (j+1) (by omega)).2;have hS1:(aw lead l x (j+1)).1=l j:=ke aX hNP;obtain ⟨hH0,hHt,hHl,hHb⟩:=hH j (by omega) aX hNP;have hY:=qN (Classical.not_not.1 hej)
    exact ⟨(GF,[.frm 45,.frm 41,.frm 0,.frm 42]),by rw [if_neg hcj,if_neg hdj,if_neg hej,if_pos hfj];rfl,⟨ad,ad,aP,ad,trivial⟩,(lB (ugT ad) (lB (eN (P:=(prK j)) nI ad rfl) (lB (dl (op:=.eql) ad (cA (beq_eq_false_iff_ne.2 aX) (by simp))) (lB (fh (P:=(prK j)) (Rw.To 2 (If a ka) la (fun _ _ _ _ h=>h)) ad rfl) (lB (fh (P:=(prK j)) (Rw.To 2 (If b kb) lb (fun _ _ _ _ h=>h)) ad rfl) (lB (kf (hGG j) (hLL j) ad ad ad rfl hPp (eg ha0) (eg hb0) fx) (cR (de (e:=99) (sz:=1) (n:=(l j)) (F:=(aA .u64 (gg j))) ad rfl) (lB (ch (n:=(l j)) underlying116 ad rfl) (lB (dg ad) (lB (kW (hXX j) (js:=[1,2]) ad ad ad rfl ⟨by omega,by omega⟩ hGr) (lB (nc ad ad (fun _ _ h=>ah.rw h) ad rfl rfl aX hNP hXr hB1 hBM hY) (lB (cS [3] (qO (k:=j) (l:=l) (x:=x) (lead:=lead) (fun _ _ h=>ah.rw h) rfl rfl aX hNP)) (lB (cS [3] (mg (z:=a) (y:=ae (bc lead l x j)) (Rw.To 2 (Nf (ae (bc lead l x j)) 257) ((bc lead l x j).length) (fun _ _ _ _ h=>ai.i h)) (Rw.To 2 (If a ka) la (fun _ _ _ _ h=>h)) hba hHb ha0 hta (fun i hi=>ep hi) hHt hH0 (by simp only [Bool.false_eq_true,false_iff];exact hfj))) (lB (jX (k:=j) ad rfl (jZ)) au))))))))))))))⟩
   ·have aX:lead % ((prK j:Nat):Int)≠0:=hcj;have fx:=hNe j (by omega) aX;have hGr:=(hGV j (by omega) aX).1;have hLl:=(hGV j (by omega) aX).2;have ht1:=aL (img (prK j) a) la;have ht2:=aL (img (prK j) b) lb;have hs0:=hSl j (by omega);have hs1:=hSl (j+1) (by omega);have hXr:∀i,0<=x j i∧x j i<((prK j:Nat):Int):=fun i=>(by rw [<- hXX j];exact jh (by omega) _ _ i);have hl1:l j≠1:=fun e=>hJn j hj ⟨aX,.inl e⟩;have hNP:¬dF lead l x j:=hdj;have hB1:∀i,Bd ((aw lead l x (j+1)).2.2 i).natAbs 257:=(hSB (j+1) (by omega)).1;have hBM:=(hSB (j+1) (by omega)).2;have hS1:(aw lead l x (j+1)).1=l j:=ke aX hNP;obtain ⟨hH0,hHt,hHl,hHb⟩:=hH j (by omega) aX hNP;have hY:=qN (Classical.not_not.1 hej);have hda:=Classical.not_not.1 hfj;have hdb:¬el (ae (bc lead l x j)) b:=fun h=>hJn j hj ⟨aX,.inr ⟨hNP,Classical.not_not.1 hej,hda,h⟩⟩
    exact ⟨(GG,[.frm 57,.frm 53,.frm 0,.frm 54]),by rw [if_neg hcj,if_neg hdj,if_neg hej,if_neg hfj];rfl,⟨ad,ad,aP,ad,trivial⟩,(lB (ugT ad) (lB (eN (P:=(prK j)) nI ad rfl) (lB (dl (op:=.eql) ad (cA (beq_eq_false_iff_ne.2 aX) (by simp))) (lB (fh (P:=(prK j)) (Rw.To 2 (If a ka) la (fun _ _ _ _ h=>h)) ad rfl) (lB (fh (P:=(prK j)) (Rw.To 2 (If b kb) lb (fun _ _ _ _ h=>h)) ad rfl) (lB (kf (hGG j) (hLL j) ad ad ad rfl hPp (eg ha0) (eg hb0) fx) (cR (de (e:=99) (sz:=1) (n:=(l j)) (F:=(aA .u64 (gg j))) ad rfl) (lB (ch (n:=(l j)) underlying116 ad rfl) (lB (dg ad) (lB (kW (hXX j) (js:=[1,2]) ad ad ad rfl ⟨by omega,by omega⟩ hGr) (lB (nc ad ad (fun _ _ h=>ah.rw h) ad rfl rfl aX hNP hXr hB1 hBM hY) (lB (cS [3] (qO (k:=j) (l:=l) (x:=x) (lead:=lead) (fun _ _ h=>ah.rw h) rfl rfl aX hNP)) (lB (cS [3] (mg (z:=a) (y:=ae (bc lead l x j)) (Rw.To 2 (Nf (ae (bc lead l x j)) 257) ((bc lead l x j).length) (fun _ _ _ _ h=>ai.i h)) (Rw.To 2 (If a ka) la (fun _ _ _ _ h=>h)) hba hHb ha0 hta (fun i hi=>ep hi) hHt hH0 (by simp only [true_iff];exact hda))) (lB (cS [3] (mg (z:=b) (y:=ae (bc lead l x j)) (Rw.To 2 (Nf (ae (bc lead l x j)) 257) ((bc lead l x j).length) (fun _ _ _ _ h=>ai.i h)) (Rw.To 2 (If b kb) lb (fun _ _ _ _ h=>h)) hbb hHb hb0 htb (fun i hi=>ep hi) hHt hH0 (by simp only [Bool.false_eq_true,false_iff];exact hdb))) (lB (jX (k:=j) ad rfl (jZ)) au)))))))))))))))⟩
)
   (by
   have hP:=qM (k:=J);have hPp:=fY (k:=J);have hm0:=Int.emod_nonneg lead (b:=((prK J:Nat):Int)) (by omega);have hm1:=Int.emod_lt_of_pos lead (b:=((prK J:Nat):Int)) (by omega);have aX:lead % ((prK J:Nat):Int)≠0:=hLn;have fx:=hNe J (by omega) aX;have hGr:=(hGV J (by omega) aX).1;have hLl:=(hGV J (by omega) aX).2;have ht1:=aL (img (prK J) a) la;have ht2:=aL (img (prK J) b) lb;have hs0:=hSl J (by omega);have hs1:=hSl (J+1) (Nat.le_refl _)
   exact (lB (ugT ad) (lB (eN (P:=(prK (J))) nI ad rfl) (lB (dl (op:=.eql) ad (cA (beq_eq_false_iff_ne.2 hLn) (by simp))) (lB (fh (P:=(prK (J))) (Rw.To 2 (If a ka) la (fun _ _ _ _ h=>h)) ad rfl) (lB (fh (P:=(prK (J))) (Rw.To 2 (If b kb) lb (fun _ _ _ _ h=>h)) ad rfl) (lB (kf (hGG (J)) (hLL (J)) ad ad ad rfl hPp (eg ha0) (eg hb0) fx) (cR (de (e:=99) (sz:=1) (n:=(l (J))) (F:=(aA .u64 (gg (J)))) ad rfl) (lB (ch (n:=(l (J))) underlying116 ad rfl) (lB (ic ad) au))))))))))
   (fun q hq=>by cases hq)) (ej (gE rfl) (lB (tD (a:=1) ad rfl) (lB (cS [11] (kX (z:=fun _=>1) (n:=1) (zs:=[1]) ad rfl (fun _=>⟨by decide,by decide⟩))) au)))))))
  (aK [.fact 0 (.one (.s)),.fact 1 (.one (.s))] ⟨Rw.Is 2 (If a ka) la,Rw.Is 2 (If b kb) lb,trivial⟩) bg
theorem Xu {p:Nat}{N:Nat} (hp:Prm p) (ha:Vd p a la) (hb:Vd p b lb) (hne:0<la∨0<lb) (h1:la<=N) (h2:lb<=N):ig p a la b lb<=N:=by
 have hJ:=vP hp ha hb hne
 unfold ig
 generalize euJ p a la b lb=j at hJ ⊢
 cases j with
 | zero=>exact h1
 | succ j=>
  have h3:=(mH hp ha hb hne (j:=j) fun k hk=>hJ.2.2 k (by omega)).2.2.1
  show (euS p a la b lb j).2.2<=N
  omega
section
variable {g:Nat->Nat->Int}{n N:Nat}
theorem GH (hl:∀k,k<n->lead % ((prK k:Nat):Int)≠0->l k<=N):∀{k:Nat},k<=n->(aw lead l x k).1<=N
 | 0,_=>Nat.zero_le _
 | k+1,hk=>by
  have ih:=GH hl (k:=k) (by omega)
  by_cases h1:lead % ((prK k:Nat):Int)=0
  ·rw [tC h1];exact ih
  ·by_cases h2:dF lead l x k
   ·rw [xG h1 h2];exact ih
   ·rw [ke h1 h2];exact hl k (by omega) h1
theorem xK (hl:∀k,k<n->lead % ((prK k:Nat):Int)≠0->0<l k):∀{k:Nat},k<=n->(aw lead l x k).1=0->aw lead l x k=(0,0,fun _=>0)
 | 0,_,_=>rfl
 | k+1,hk,h0=>by
  by_cases h1:lead % ((prK k:Nat):Int)=0
  ·rw [tC h1] at h0 ⊢;exact xK hl (by omega) h0
  ·by_cases h2:dF lead l x k
   ·rw [xG h1 h2] at h0 ⊢;exact xK hl (by omega) h0
   ·rw [ke h1 h2] at h0
    have:=hl k (by omega) h1
    omega
theorem pwS {m:Nat} (h:1<C) (hk:k<m):C ^ k<C ^ m:=Nat.pow_lt_pow_right h hk
theorem Xv (k:Nat){X:Int} (h:X=0):Bd X.natAbs k:=by subst h;exact mw k
theorem Xw (k m:Nat):(∀i,Bd (((0,0,fun _=>0):Nat×Nat×(Nat->Int)).2.2 i).natAbs k)∧Bd ((0,0,fun _=>0):Nat×Nat×(Nat->Int)).2.1 m:=⟨fun i=>Xv k rfl,Nat.pow_pos (by omega)⟩
theorem Xx (k:Nat):Bd 0 k:=Nat.pow_pos (by omega)
theorem Xy (k:Nat) (h:0<k:=by omega):Bd 1 k:=Nat.one_lt_pow (by omega) (by omega)
theorem xL {k a b:Nat} (h1:2*A+1<=M) (h2:M<=B ^ k) (hk:k<=a) (hB:1<B) (hBC:B<=C) (hab:a<b) (hbc:b<c):A<C ^ b∧M<C ^ c:=by
 have hC:1<C:=by omega
 have h3:B ^ k<=C ^ a:=Nat.le_trans (Nat.pow_le_pow_left hBC k) (Nat.pow_le_pow_right (by omega) hk)
 have h4:C ^ a<C ^ b:=pwS hC hab
 have h5:C ^ b<C ^ c:=pwS hC hbc
 generalize C ^ a=c1 at *
 generalize C ^ b=c2 at *
 generalize C ^ c=c3 at *
 generalize B ^ k=c4 at *
 omega
theorem GI {k a b:Nat} (h1:2*A+1<=M) (h2:M<=B ^ k) (hk:k<=a:=by omega) (hB:1<B:=by omega) (hBC:B<=4294967296:=by omega) (hab:a<b:=by decide) (hbc:b<c:=by decide):Bd A b∧Bd M c:=xL h1 h2 hk hB hBC hab hbc
theorem Xz (hl:∀k,k<n->lead % ((prK k:Nat):Int)≠0->0<l k) (hn:n<=256) (hk:k<=n):(∀i,Bd ((aw lead l x k).2.2 i).natAbs 257)∧Bd (aw lead l x k).2.1 258:=by
 rcases Nat.eq_zero_or_pos (aw lead l x k).1 with h | h
 ·rw [xK hl hk h]
  exact Xw 257 258
 ·obtain ⟨-,h2,h3,h4⟩:=vQ (by omega) h
  exact ⟨fun i=>(GI (a:=256) (b:=257) (c:=258) (h4 i) h2).1,(GI (a:=256) (b:=257) (c:=258) (A:=0) (by omega) h2).2⟩
theorem GJ (h1:lead % ((prK k:Nat):Int)≠0) (h2:¬dF lead l (fun k=>scl (prK k) (lead % ((prK k:Nat):Int)) (g k)) k) (h3:0<l k) (hg1:g k (l k-1)=1) (hB:∀i,Bd ((aw lead l (fun k=>scl (prK k) (lead % ((prK k:Nat):Int)) (g k)) (k+1)).2.2 i).natAbs 257) (hk:k<256:=by omega) :
  (bc lead l (fun k=>scl (prK k) (lead % ((prK k:Nat):Int)) (g k)) k).length=l k∧tl (ae (bc lead l (fun k=>scl (prK k) (lead % ((prK k:Nat):Int)) (g k)) k)) (l k)=l k∧∀i,Bd (ae (bc lead l (fun k=>scl (prK k) (lead % ((prK k:Nat):Int)) (g k)) k) i).natAbs 257:=by
 have h0:(aw lead l (fun k=>scl (prK k) (lead % ((prK k:Nat):Int)) (g k)) (k+1)).2.2 (l k-1)≠0:=fun h0=>by
  have h7:=(CG (lead:=lead) (l:=l) (x:=fun k=>scl (prK k) (lead % ((prK k:Nat):Int)) (g k)) (k:=k) (i:=l k-1) hk h1 h2).2
  have h8:scl (prK k) (lead % ((prK k:Nat):Int)) (g k) (l k-1)=lead % ((prK k:Nat):Int):=by
   unfold scl
   rw [hg1,Int.one_mul,Int.emod_emod_of_dvd _ (Int.dvd_refl _)]
  rw [h0,h8,Int.zero_sub,Int.dvd_neg] at h7
  refine h1 ?_
  rw [<- Int.emod_emod_of_dvd lead (Int.dvd_refl ((prK k:Nat):Int))]
  exact Int.emod_eq_zero_of_dvd h7
 unfold bc
 generalize (aw lead l (fun k=>scl (prK k) (lead % ((prK k:Nat):Int)) (g k)) (k+1)).2.2=z at *
 have ht:tl z (l k)=l k:=jG fun _=>h0
 have hl:=(sk (z:=z) (n:=l k)).1
 rw [ht] at hl
 refine ⟨by rw [dvL,gI,ht],jG fun _=>by omega,fun i=>?_⟩
 rw [dvL,eG]
 split
 ·exact (hB i).le (Int.natAbs_ediv_le_natAbs _ _)
 ·exact Xx 257
end
section
variable {Φ:PH}{p q xx:Nat}
theorem XA {G:Nat->Int}{K u v d:Nat} (hp:∀w v,Φ p w v->Rw 2 (If a ka) la w v) (hq:∀w v,Φ q w v->Rw 2 (If b kb) lb w v) (hx:Φ xx=Rw 2 (Nf G 257) (d+1))
  (hs:Vz (a,la)) (ht:Vz (b,lb)) (hba:∀i,Bd (a i).natAbs ka) (hbb:∀i,Bd (b i).natAbs kb)
  (hG:(gcS (a,la) (b,lb) (cD (a,la) (b,lb))).1.1=G) (hd:(gcS (a,la) (b,lb) (cD (a,la) (b,lb))).1.2=d+1) (hA:∀i,(a i).natAbs<=K) (hB:∀i,(b i).natAbs<=K) (hKu:K+(2*(la+lb)*K) ^ (la+lb)<2147000000 ^ (u+1)) (hKv:2*(K*(K+(2*(la+lb)*K) ^ (la+lb)))+1<=2147000000 ^ v) (hv:0<v) (huv:v+u+v<256) (nd:0<la:=by omega) (me:0<lb:=by omega) (hla:la<=1000:=by omega) (hlb:lb<=1000:=by omega) (hka:ka<=100:=by omega) (hkb:kb<=100:=by omega) (hsz:(la+lb+1)*258<=80000:=by omega) :
  aj Φ prog ⟨67,[.fact p,.fact q],[oS xx],false⟩:=by
 let l:Nat->Nat:=fun k=>ig (prK k) (img (prK k) a) (tl (img (prK k) a) la) (img (prK k) b) (tl (img (prK k) b) lb)
 let g:Nat->Nat->Int:=fun k=>imG (prK k) (img (prK k) a) (tl (img (prK k) a) la) (img (prK k) b) (tl (img (prK k) b) lb)
 obtain ⟨lead,hlead⟩:∃lead:Int,lead=((Nat.gcd (a (la-1)).natAbs (b (lb-1)).natAbs:Nat):Int):=⟨_,rfl⟩
 obtain ⟨H,c0,hc,hle,hall,k,hk,h1,h2,h3,h4,h5⟩:=PR hs ht nd me hG hd hA hB hKu hKv hv huv l g (fun _=>rfl) (fun _=>rfl) lead hlead
 obtain ⟨J,hJk,hE,hJn⟩:=PT H hc h1 h2 h3 h4 h5
 have hlp:∀k,k<256->lead % ((prK k:Nat):Int)≠0->0<l k:=fun k hk hp=>by have:=(hall k hk hp).1;omega
 have hap:=(hs.2 nd).1
 have hbp:=(ht.2 me).1
 have hne:∀k,lead % ((prK k:Nat):Int)≠0->0<tl (img (prK k) a) la∨0<tl (img (prK k) b) lb:=fun k hp=>by
  by_cases e1:((prK k:Nat):Int)∣a (la-1)
  ·by_cases e2:((prK k:Nat):Int)∣b (lb-1)
   ·refine absurd (Int.emod_eq_zero_of_dvd ?_) hp
    rw [hlead]
    exact Int.natCast_dvd_natCast.2 (Nat.dvd_gcd (Int.ofNat_dvd_left.1 e1) (Int.ofNat_dvd_left.1 e2))
   ·have:=si e2
    rw [Nat.sub_add_cancel me] at this
    omega
  ·have:=si e1
   rw [Nat.sub_add_cancel nd] at this
   omega
 have hl1:∀k,k<256->lead % ((prK k:Nat):Int)≠0->l k<=1000:=fun k hk hp=>by
  have hr:=qM (hk:=hk)
  refine Xu (fY (h:=hk)) (eg hs.1) (eg ht.1) (hne k hp) ?_ ?_
  ·exact Nat.le_trans (aL _ _) hla
  ·exact Nat.le_trans (aL _ _) hlb
 have hSB:∀k,k<=256->(∀i,Bd ((aw lead l (fun k=>scl (prK k) (lead % ((prK k:Nat):Int)) (g k)) k).2.2 i).natAbs 257)∧Bd (aw lead l (fun k=>scl (prK k) (lead % ((prK k:Nat):Int)) (g k)) k).2.1 258:=fun k hk=>Xz hlp (Nat.le_refl _) hk
 have hSl:∀k,k<=256->(aw lead l (fun k=>scl (prK k) (lead % ((prK k:Nat):Int)) (g k)) k).1<=1000:=fun k hk=>GH hl1 hk
 have hH:∀k,k<=J->lead % ((prK k:Nat):Int)≠0->¬dF lead l (fun k=>scl (prK k) (lead % ((prK k:Nat):Int)) (g k)) k->0<(bc lead l (fun k=>scl (prK k) (lead % ((prK k:Nat):Int)) (g k)) k).length∧tl (ae (bc lead l (fun k=>scl (prK k) (lead % ((prK k:Nat):Int)) (g k)) k)) (bc lead l (fun k=>scl (prK k) (lead % ((prK k:Nat):Int)) (g k)) k).length=(bc lead l (fun k=>scl (prK k) (lead % ((prK k:Nat):Int)) (g k)) k).length∧(bc lead l (fun k=>scl (prK k) (lead % ((prK k:Nat):Int)) (g k)) k).length<=1000∧∀i,Bd (ae (bc lead l (fun k=>scl (prK k) (lead % ((prK k:Nat):Int)) (g k)) k) i).natAbs 257:=fun k hk hp hP=>by
  obtain ⟨e1,e2,e3⟩:=GJ (l:=l) (g:=g) hp hP (hlp k (by omega) hp) (hall k (by omega) hp).2.2 (hSB (k+1) (by omega)).1
  rw [e1]
  exact ⟨hlp k (by omega) hp,e2,hl1 k (by omega) hp,e3⟩
 have hR:=PS (g:=g) H (hall J (by omega) hE.1).1 (hall J (by omega) hE.1).2.2 hE
 by_cases e:l J=1
 ·have hd0:d=0:=by have:=(hall J (by omega) hE.1).1;omega
  subst hd0
  refine aW (Xt (a:=a) (b:=b) (ka:=ka) (kb:=kb) (J:=J) (lead:=lead) (l:=l) (gg:=g) (x:=fun k=>scl (prK k) (lead % ((prK k:Nat):Int)) (g k)) hla hlb nd me hka hkb hs.1 ht.1 (jG fun _=>by dsimp only at hap;omega) (jG fun _=>by dsimp only at hbp;omega) hba hbb hsz hlead.symm hJn (fun _=>rfl) (fun _=>rfl) (fun _=>rfl) (fun k _ hp=>hne k hp) (fun k hk hp=>⟨(hall k (by omega) hp).2.1.1,hlp k (by omega) hp,hl1 k (by omega) hp⟩) (fun k hk=>hSB k (by omega)) (fun k hk=>hSl k (by omega)) hH hE.1 e)
   ⟨hp,hq,trivial⟩ ⟨⟨rfl,⟨rfl,rfl,fun w v h=>?_⟩,trivial⟩,trivial⟩
  have h':Rw 2 (Nf (ae [1]) 2) 1 w v:=h
  rw [hx]
  refine h'.to fun i w v hi h=>?_
  show ai w v (G i) 257
  have:=hR.1 e i
  obtain rfl:i=0:=by omega
  rw [this]
  exact ai.re h (Xy 257)
 ·obtain ⟨h6,h7,h8,h9⟩:=hE.2.resolve_left e
  have hR2:=hR.2 e
  refine aW (Xn (a:=a) (b:=b) (ka:=ka) (kb:=kb) (J:=J) (lead:=lead) (l:=l) (gg:=g) (x:=fun k=>scl (prK k) (lead % ((prK k:Nat):Int)) (g k)) hla hlb nd me hka hkb hs.1 ht.1 (jG fun _=>by dsimp only at hap;omega) (jG fun _=>by dsimp only at hbp;omega) hba hbb hsz hlead.symm hJn (fun _=>rfl) (fun _=>rfl) (fun _=>rfl) (fun k _ hp=>hne k hp) (fun k hk hp=>⟨(hall k (by omega) hp).2.1.1,hlp k (by omega) hp,hl1 k (by omega) hp⟩) (fun k hk=>hSB k (by omega)) (fun k hk=>hSl k (by omega)) hH hE.1 e h6 h7 h8 h9)
   ⟨hp,hq,trivial⟩ ⟨⟨rfl,⟨rfl,rfl,fun w v h=>?_⟩,trivial⟩,trivial⟩
  have h':Rw 2 (Nf (ae (bc lead l (fun k=>scl (prK k) (lead % ((prK k:Nat):Int)) (g k)) J)) 257) (bc lead l (fun k=>scl (prK k) (lead % ((prK k:Nat):Int)) (g k)) J).length w v:=h
  rw [(GJ (l:=l) (g:=g) hE.1 h6 (hlp J (by omega) hE.1) (hall J (by omega) hE.1).2.2 (hSB (J+1) (by omega)).1).1,hR2.1] at h'
  rw [hx]
  refine h'.to fun i w v hi h=>?_
  show ai w v (G i) 257
  rw [<- hR2.2 i]
  exact h
end
end Go.Proofs.YtomamliepbhegaaGreat.Sym
