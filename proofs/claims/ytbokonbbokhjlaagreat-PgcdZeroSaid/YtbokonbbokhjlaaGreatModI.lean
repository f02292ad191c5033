/- shared: the divisor put together from prime to prime. shared answers the primitive greatest common divisor. -/
import Derived.Test.YtbokonbbokhjlaaGreatModG
import Derived.Test.YtbokonbbokhjlaaGreatGauH
import Derived.Test.YtbokonbbokhjlaaGreatDivC
set_option maxRecDepth 100000
namespace Go.Proofs.YtbokonbbokhjlaaGreat.Sym
open Go.RowKit
theorem ot {k:Nat} (hk:k<256):2147000000<=prK k∧prK k<=2147483647:=⟨gp hk,by have:=(jy hk).2;omega⟩
theorem Cm:∀{f n:Nat},n<=2*f->prm (fE f n)=true∨fE f n<=1
 | 0,n,h=>.inr (by unfold fE;omega)
 | f+1,n,h=>by
  unfold fE
  cases h1:Nat.ble n 1
  ·rw [cond_false]
   cases h2:prm n
   ·rw [cond_false];exact Cm (by omega)
   ·rw [cond_true];exact .inl h2
  ·rw [cond_true];exact .inr (Nat.le_of_ble_eq_true h1)
theorem ji {k:Nat} (hk:k+1<256):prm (prK (k+1))=true:=by
 have hb:=gp hk
 have e:prK (k+1)=fE (prK k) (prK k-2):=pU k
 rcases Cm (f:=prK k) (n:=prK k-2) (by omega) with h | h
 ·rw [e];exact h
 ·omega
section
variable {lead:Int}{l:Nat->Nat}{x:Nat->Nat->Int}{k:Nat}
theorem qQ (h:lead % ((prK k:Nat):Int)=0):al lead l x (k+1)=al lead l x k:=by rw [al,if_pos h]
theorem uM (h:lead % ((prK k:Nat):Int)≠0) (hp:dg lead l x k):al lead l x (k+1)=al lead l x k:=by
 have hp':0<(al lead l x k).1∧(al lead l x k).1<l k:=hp
 rw [al,if_neg h,if_pos hp']
theorem jj (h:lead % ((prK k:Nat):Int)≠0) (hp:¬dg lead l x k):(al lead l x (k+1)).1=l k:=by rw [tj h hp]
theorem PL (h:lead % ((prK k:Nat):Int)≠0) (hp:¬dg lead l x k):dvL (al lead l x (k+1)).2.2 (al lead l x (k+1)).1 (bS (al lead l x (k+1)).2.2 (al lead l x (k+1)).1)=aR lead l x k:=by rw [jj h hp];rfl
theorem ou (h:iQ lead l x k):true=decide (∀j,j<l k->mvn (prK k) ((gsM lead l x k:Nat):Int) (fu lead l x k j) (x k j)=0):=by unfold iQ at h;exact (decide_eq_true h).symm
theorem Cn (h:¬iQ lead l x k):false=decide (∀j,j<l k->mvn (prK k) ((gsM lead l x k:Nat):Int) (fu lead l x k j) (x k j)=0):=by unfold iQ at h;exact (decide_eq_false h).symm
theorem Co {e:TypeId} (w:World):ah 2 e (Nf ((al lead l x 0).2.2) 257) (al lead l x 0).1 w (.slice none 0 0):=ah.nil 2 e _ w
theorem Cp {e:TypeId}{w:World}{v:Value} (hs:lead % ((prK k:Nat):Int)=0) (h:ah 2 e (fun i w v=>af w v ((al lead l x k).2.2 i) 257) (al lead l x k).1 w v):ah 2 e (fun i w v=>af w v ((al lead l x (k+1)).2.2 i) 257) (al lead l x (k+1)).1 w v:=by rw [qQ hs];exact h
theorem Cq {w:World}{v:Value} (hs:lead % ((prK k:Nat):Int)=0) (h:af w v (((al lead l x k).2.1:Nat):Int) 258):af w v (((al lead l x (k+1)).2.1:Nat):Int) 258:=by rw [qQ hs];exact h
theorem PM (hp:¬dg lead l x k):(l k=(al lead l x k).1∧fu lead l x k=(al lead l x k).2.2∧((gsM lead l x k:Nat):Int)=(((al lead l x k).2.1:Nat):Int))∨(l k≠(al lead l x k).1∧((al lead l x k).1=0∨l k<(al lead l x k).1)∧(fu lead l x k=fun _=>0)∧((gsM lead l x k:Nat):Int)=1):=by
 by_cases e:l k=(al lead l x k).1
 ·exact .inl ⟨e,by rw [fu,if_pos e],by rw [gsM,if_pos e]⟩
 ·refine .inr ⟨e,?_,by rw [fu,if_neg e],by rw [gsM,if_neg e];rfl⟩
  have hp':¬(0<(al lead l x k).1∧(al lead l x k).1<l k):=hp
  omega
end
section
variable {Φ:PH}{p q r s x1 x2 k la lb P m:Nat}{lead c:Int}{l:Nat->Nat}{x:Nat->Nat->Int}{rb:Bool}{a b G:Nat->Int}
theorem jk {g:Nat->Int} (hg:imG P a la b lb=g) (hl:gv P a la b lb=m) (hp:∀w v,Φ p w v->ah 1 103 (au .u64 a) la w v) (hq:∀w v,Φ q w v->ah 1 103 (au .u64 b) lb w v) (hr:∀w v,Φ r w v->v = .int .u64 ((P:Nat):Int)) (hx:Φ s=ah 1 103 (au .u64 g) m)
  (hla:la<=1000000) (hlb:lb<=1000000) (hP:Prm P) (dN:P<2147483648) (ha:Vd P a la) (hb:Vd P b lb) (hne:0<la∨0<lb):ai Φ Tryz.prog ⟨116,[.fact p,.fact q,.fact r],[oS s],.cI [1,2] [1,2] [([1],[1]),([2],[2]),([],[])] false⟩:=by
 subst hg hl
 exact PK hp hq hr hx hla hlb hP dN ha hb hne
theorem jJ {js:List Nat}{g:Nat->Int} (hg:scl P c a=g) (hjs:js ≠ []) (hp:∀w v,Φ p w v->ah 1 103 (au .u64 a) la w v) (hq:∀w v,Φ q w v->v = .int .u64 c) (hr:∀w v,Φ r w v->v = .int .u64 ((P:Nat):Int)) (hx:Φ s=ah 1 103 (au .u64 g) la)
  (hla:la<=1000000) (hP:0<P) (dN:P<2147483648) (hc:0<=c∧c<P) (ha:∀j,0<=a j∧a j<P):ai Φ Tryz.prog ⟨119,[.fact p,.fact q,.fact r],[oS s],.cI js js [(js,js),([],[]),([],[])] false⟩:=by
 subst hg
 exact PJ hjs hp hq hr hx hla hP dN hc ha
theorem Cr (hp:∀w v,Φ p w v->ah 2 52 (Nf ((al lead l x k).2.2) 257) (al lead l x k).1 w v) (hq:∀w v,Φ q w v->af w v (((al lead l x k).2.1:Nat):Int) 258) (hr:∀w v,Φ r w v->Rw 1 (au .u64 (x k)) (l k) w v) (hs:∀w v,Φ s w v->v = .int .u64 ((prK k:Nat):Int))
  (hx1:Φ x1=fun w v=>ah 2 52 (fun i w v=>af w v ((al lead l x (k+1)).2.2 i) 257) (al lead l x (k+1)).1 w v) (hx2:Φ x2=Nw (((al lead l x (k+1)).2.1:Nat):Int) 258) (h:lead % ((prK k:Nat):Int)≠0) (hP:dg lead l x k) :
  ai Φ Tryz.prog ⟨118,[.parts (.agg [.s,.b,.s]) [(0,1,p),(1,2,q)],.fact r,.fact s],[oL (.cb false),⟨.agg [.s,.b,.s],[(0,1,x1),(1,2,x2)]⟩],.fj [3,1,2] 3 3 [[3],[1,2],[]]⟩:=by
 rw [uM h hP] at hx1 hx2
 exact Pz hp hq hr hs hx1 hx2 hP.1 hP.2
theorem ow (hp:∀w v,Φ p w v->Rw 2 (fun i w v=>af w v ((al lead l x (k+1)).2.2 i) 257) (al lead l x (k+1)).1 w v) (hx1:Φ x1=Nw (bS (al lead l x (k+1)).2.2 (al lead l x (k+1)).1) 257) (hx2:Φ x2=Rw 2 (Nf (ae (aR lead l x k)) 257) (aR lead l x k).length)
  (h:lead % ((prK k:Nat):Int)≠0) (hP:¬dg lead l x k) (hn:(al lead l x (k+1)).1<=1000000):ai Φ Tryz.prog ⟨47,[.fact p],[oI x1,oS x2],true⟩:=
 pI (fun w v hh=>(hp w v hh).to fun _ _ _ _ h=>af.i h) hx1 hx2 hn (by omega) (PL h hP) rfl
theorem PN {p:Nat}{M:Int}{F y:Nat->Int}{n i:Nat} (h:i<n):aK p M F y n i=F i+M*bD p (mvn p M (F i) (y i)):=if_pos h
theorem lE (hp:∀w v,Φ p w v->ah 2 52 (Nf ((al lead l x k).2.2) 257) (al lead l x k).1 w v) (hq:∀w v,Φ q w v->af w v (((al lead l x k).2.1:Nat):Int) 258) (hr:∀w v,Φ r w v->Rw 1 (au .u64 (x k)) (l k) w v) (hs:∀w v,Φ s w v->v = .int .u64 ((prK k:Nat):Int))
  (hx1:Φ x1=fun w v=>ah 2 52 (fun i w v=>af w v ((al lead l x (k+1)).2.2 i) 257) (al lead l x (k+1)).1 w v) (hx2:Φ x2=Nw (((al lead l x (k+1)).2.1:Nat):Int) 258) (h:lead % ((prK k:Nat):Int)≠0) (hP:¬dg lead l x k)
  (hl:l k<=1000000) (hl0:0<l k) (hn0:(al lead l x k).1<=1000000) (hp1:1<prK k) (eJ:prK k<2147483648) (hx:∀i,0<=x k i∧x k i<((prK k:Nat):Int)) (hB:∀i,Bd ((al lead l x (k+1)).2.2 i).natAbs 257) (hBM:Bd (al lead l x (k+1)).2.1 258) (hrb:rb=decide (∀j,j<l k->mvn (prK k) ((gsM lead l x k:Nat):Int) (fu lead l x k j) (x k j)=0)) :
  ai Φ Tryz.prog ⟨118,[.parts (.agg [.s,.b,.s]) [(0,1,p),(1,2,q)],.fact r,.fact s],[oL (.cb rb),⟨.agg [.s,.b,.s],[(0,1,x1),(1,2,x2)]⟩],.fj [3,1,2] 3 3 [[3],[1,2],[]]⟩:=by
 have hnx:=tj (x:=x) h hP
 have hB':∀i,i<l k->Bd (fu lead l x k i+((gsM lead l x k:Nat):Int)*bD (prK k) (mvn (prK k) ((gsM lead l x k:Nat):Int) (fu lead l x k i) (x k i))).natAbs 257:=fun i hi=>by
  have:=hB i
  rw [hnx] at this
  dsimp only at this
  rw [if_pos hi] at this
  exact this
 rw [hnx] at hx1 hx2 hBM
 have H:=PA (Φ:=ph [ah 2 52 (Nf ((al lead l x k).2.2) 257) (al lead l x k).1,Nw (((al lead l x k).2.1:Nat):Int) 258,Rw 1 (au .u64 (x k)) (l k),Nu ((prK k:Nat):Int),ah 2 52 (Nf (aK (prK k) ((gsM lead l x k:Nat):Int) (fu lead l x k) (x k) (l k)) 257) (l k),Nw (((gsM lead l x k:Nat):Int)*((prK k:Nat):Int)) (258+2)])
  (p:=0) (q:=1) (r:=2) (s:=3) (x1:=4) (x2:=5) ad ad ad ad rfl rfl hl hl0 hn0 hp1 eJ (by omega) (by omega) (by omega) hx hB' (PM hP) hrb
 exact fun X L W0 w B c0 vs hgr hX hL hLX hone hWB hXB hLB hlen hcl hag hhd=>by
  match vs,hag with
  | [u1,u2],hag=>
   refine (H X L W0 w B c0 [u1,u2] hgr hX hL hLX hone hWB hXB hLB hlen hcl ⟨⟨⟨hag.1.1.1,fun z hz w1 hw=>?_⟩,fun h=>absurd rfl h⟩,⟨fun w1 hw=>hr _ _ (hag.2.1.1 w1 hw),fun h=>absurd rfl h⟩,⟨fun w1 hw=>hs _ _ (hag.2.2.1.1 w1 hw),fun h=>absurd rfl h⟩,trivial⟩ hhd).mono fun e w' ⟨u,l',he,hwr,hl',hcl',ho,hb⟩=>⟨u,l',he,hwr,hl',hcl',⟨⟨ho.1.1,fun _ h=>by cases h⟩,⟨ho.2.1.1,fun z hz w1 hw=>?_⟩,trivial⟩,hb⟩
   ·simp only [List.mem_cons,List.not_mem_nil,or_false] at hz
    rcases hz with rfl | rfl
    ·exact hp _ _ (hag.1.1.2 (0,1,p) (by simp) w1 hw)
    ·exact hq _ _ (hag.1.1.2 (1,2,q) (by simp) w1 hw)
   ·simp only [List.mem_cons,List.not_mem_nil,or_false] at hz
    rcases hz with rfl | rfl
    ·show Φ x1 w1 _
     rw [hx1]
     have h4:ah 2 52 (Nf (aK (prK k) ((gsM lead l x k:Nat):Int) (fu lead l x k) (x k) (l k)) 257) (l k) w1 (bi 0 1 (.agg l'.toArray)):=ho.2.1.2 (0,1,4) (by simp) w1 hw
     exact h4.to fun i w v hi h=>by
      dsimp only
      rw [if_pos hi]
      replace h:af _ _ (aK _ _ _ _ _ i) _:=h
      rw [PN hi] at h
      exact h
    ·show Φ x2 w1 _
     rw [hx2]
     have h5:af w1 (bi 1 2 (.agg l'.toArray)) (((gsM lead l x k:Nat):Int)*((prK k:Nat):Int)) (258+2):=ho.2.1.2 (1,2,5) (by simp) w1 hw
     dsimp only
     refine af.re (h5.eq (by rw [Int.natCast_mul])) ?_
     rw [Int.natAbs_natCast]
     exact hBM
end
def uN (a b:Nat->Int) (la lb ka kb J:Nat) (lead:Int) (l:Nat->Nat) (x:Nat->Nat->Int):List WP:=[Rw 2 (If a ka) la,Rw 2 (If b kb) lb,Nw (a (la-1)) ka,Nw (b (lb-1)) kb,Nw lead (ka+kb),Rw 2 (Nf (ae (aR lead l x J)) 257) ((aR lead l x J).length)]
def PO (a b:Nat->Int) (la lb:Nat) (lead:Int) (l:Nat->Nat) (gg x:Nat->Nat->Int) (j:Nat):List WP:=[Nu ((prK j:Nat):Int),ah 2 52 (Nf ((al lead l x j).2.2) 257) ((al lead l x j).1),fun _ _=>True,Nw (((al lead l x j).2.1:Nat):Int) 258,Nu (lead % (((prK j):Nat):Int)),Nu ((prK (j+1):Nat):Int),Nu (lead % (((prK j):Nat):Int)),ah 1 103 (au .u64 (img (prK j) a)) (tl (img (prK j) a) la),ah 1 103 (au .u64 (img (prK j) b)) (tl (img (prK j) b) lb),ah 1 103 (au .u64 (gg j)) (l j),b9 (l j),Nz (l j),ah 1 103 (au .u64 (x j)) (l j),fun w v=>ah 2 52 (fun ι w v=>af w v ((al lead l x (j+1)).2.2 ι) 257) ((al lead l x (j+1)).1) w v,Nw (((al lead l x (j+1)).2.1:Nat):Int) 258,Nu ((prK (j+1):Nat):Int),Nu (lead % (((prK j):Nat):Int)),ah 1 103 (au .u64 (img (prK j) a)) (tl (img (prK j) a) la),ah 1 103 (au .u64 (img (prK j) b)) (tl (img (prK j) b) lb),ah 1 103 (au .u64 (gg j)) (l j),b9 (l j),Nz (l j),ah 1 103 (au .u64 (x j)) (l j),fun w v=>ah 2 52 (fun ι w v=>af w v ((al lead l x (j+1)).2.2 ι) 257) ((al lead l x (j+1)).1) w v,Nw (((al lead l x (j+1)).2.1:Nat):Int) 258,Nu ((prK (j+1):Nat):Int),Nu (lead % (((prK j):Nat):Int)),ah 1 103 (au .u64 (img (prK j) a)) (tl (img (prK j) a) la),ah 1 103 (au .u64 (img (prK j) b)) (tl (img (prK j) b) lb),ah 1 103 (au .u64 (gg j)) (l j),b9 (l j),Nz (l j),ah 1 103 (au .u64 (x j)) (l j),fun w v=>ah 2 52 (fun ι w v=>af w v ((al lead l x (j+1)).2.2 ι) 257) ((al lead l x (j+1)).1) w v,Nw (((al lead l x (j+1)).2.1:Nat):Int) 258,Nw (bS (al lead l x (j+1)).2.2 (al lead l x (j+1)).1) 257,Rw 2 (Nf (ae (aR lead l x j)) 257) ((aR lead l x j).length),Nu ((prK (j+1):Nat):Int),Nu (lead % (((prK j):Nat):Int)),ah 1 103 (au .u64 (img (prK j) a)) (tl (img (prK j) a) la),ah 1 103 (au .u64 (img (prK j) b)) (tl (img (prK j) b) lb),ah 1 103 (au .u64 (gg j)) (l j),b9 (l j),Nz (l j),ah 1 103 (au .u64 (x j)) (l j),fun w v=>ah 2 52 (fun ι w v=>af w v ((al lead l x (j+1)).2.2 ι) 257) ((al lead l x (j+1)).1) w v,Nw (((al lead l x (j+1)).2.1:Nat):Int) 258,Nw (bS (al lead l x (j+1)).2.2 (al lead l x (j+1)).1) 257,Rw 2 (Nf (ae (aR lead l x j)) 257) ((aR lead l x j).length),Nu ((prK (j+1):Nat):Int),Nu (lead % (((prK j):Nat):Int)),ah 1 103 (au .u64 (img (prK j) a)) (tl (img (prK j) a) la),ah 1 103 (au .u64 (img (prK j) b)) (tl (img (prK j) b) lb),ah 1 103 (au .u64 (gg j)) (l j),b9 (l j),Nz (l j),ah 1 103 (au .u64 (x j)) (l j),fun w v=>ah 2 52 (fun ι w v=>af w v ((al lead l x (j+1)).2.2 ι) 257) ((al lead l x (j+1)).1) w v,Nw (((al lead l x (j+1)).2.1:Nat):Int) 258,Nw (bS (al lead l x (j+1)).2.2 (al lead l x (j+1)).1) 257,Rw 2 (Nf (ae (aR lead l x j)) 257) ((aR lead l x j).length)]
def Cs:bg:=⟨[0,1,4,5,6,12,13,14,15,16,17],[(.slot 7,.nk),(.cell 10 0,.s),(.cell 10 1,.b),(.cell 10 2,.s)],[(.one 0,6),(.one 1,.Ru [3] 7),(.one 1,.lo 3),(.agg [2,3],.Ru [3] 9)],[.closed (.one (.ci .u64 2147483647)),.closed (.one (.nl)),.frm 0,.closed (.agg [.cb false,.nl])],6,[(66,5)]⟩
def Ct:List Step:=[bQ [.fact 6,.lit (.ci .u64 2)] oT (aA .gtr),
   .base ⟨115,[.fact 4,.fact 6],[oK 10],false⟩,
   bQ [.fact 10,.lit (.ci .u64 0)] oT (aA .eql),
   .base ⟨114,[.fact 6],[oK 11],false⟩]
def Cu:List Step:=[bQ [.fact 6,.lit (.ci .u64 2)] oT (aA .gtr),
   .base ⟨115,[.fact 4,.fact 6],[oK 12],false⟩,
   bQ [.fact 12,.lit (.ci .u64 0)] oF (aA .eql),
   .base ⟨117,[.fact 0,.fact 6],[oS 13],.cu [] 1⟩,
   .base ⟨117,[.fact 1,.fact 6],[oS 14],.cu [] 2⟩,
   .base ⟨116,[.fact 13,.fact 14,.fact 6],[oS 15],.cI [1,2] [1,2] [([1],[1]),([2],[2]),([],[])] false⟩,
   .freed (.one (.s 28 0)) 15 16,
   bQ [.fact 16] [oN 17] (aD 126),
   bQ [.fact 17,.lit (.ci .i64 1)] oF (ak .eql),
   .base ⟨119,[.fact 15,.fact 12,.fact 6],[oS 18],.cI [1,2] [1,2] [([1,2],[1,2]),([],[]),([],[])] false⟩,
   .base ⟨118,[.parts (.agg [.s,.b,.s]) [(0,1,7),(1,2,9)],.fact 18,.fact 6],[oL (.cb false),⟨.agg [.s,.b,.s],[(0,1,19),(1,2,20)]⟩],.fj [3,1,2] 3 3 [[3],[1,2],[]]⟩,
   .base ⟨114,[.fact 6],[oK 21],false⟩]
def Cv:List Step:=[bQ [.fact 6,.lit (.ci .u64 2)] oT (aA .gtr),
   .base ⟨115,[.fact 4,.fact 6],[oK 22],false⟩,
   bQ [.fact 22,.lit (.ci .u64 0)] oF (aA .eql),
   .base ⟨117,[.fact 0,.fact 6],[oS 23],.cu [] 1⟩,
   .base ⟨117,[.fact 1,.fact 6],[oS 24],.cu [] 2⟩,
   .base ⟨116,[.fact 23,.fact 24,.fact 6],[oS 25],.cI [1,2] [1,2] [([1],[1]),([2],[2]),([],[])] false⟩,
   .freed (.one (.s 28 0)) 25 26,
   bQ [.fact 26] [oN 27] (aD 126),
   bQ [.fact 27,.lit (.ci .i64 1)] oF (ak .eql),
   .base ⟨119,[.fact 25,.fact 22,.fact 6],[oS 28],.cI [1,2] [1,2] [([1,2],[1,2]),([],[]),([],[])] false⟩,
   .base ⟨118,[.parts (.agg [.s,.b,.s]) [(0,1,7),(1,2,9)],.fact 28,.fact 6],[oL (.cb false),⟨.agg [.s,.b,.s],[(0,1,29),(1,2,30)]⟩],.fj [3,1,2] 3 3 [[3],[1,2],[]]⟩,
   .base ⟨114,[.fact 6],[oK 31],false⟩]
def Cw:List Step:=[bQ [.fact 6,.lit (.ci .u64 2)] oT (aA .gtr),
   .base ⟨115,[.fact 4,.fact 6],[oK 32],false⟩,
   bQ [.fact 32,.lit (.ci .u64 0)] oF (aA .eql),
   .base ⟨117,[.fact 0,.fact 6],[oS 33],.cu [] 1⟩,
   .base ⟨117,[.fact 1,.fact 6],[oS 34],.cu [] 2⟩,
   .base ⟨116,[.fact 33,.fact 34,.fact 6],[oS 35],.cI [1,2] [1,2] [([1],[1]),([2],[2]),([],[])] false⟩,
   .freed (.one (.s 28 0)) 35 36,
   bQ [.fact 36] [oN 37] (aD 126),
   bQ [.fact 37,.lit (.ci .i64 1)] oF (ak .eql),
   .base ⟨119,[.fact 35,.fact 32,.fact 6],[oS 38],.cI [1,2] [1,2] [([1,2],[1,2]),([],[]),([],[])] false⟩,
   .base ⟨118,[.parts (.agg [.s,.b,.s]) [(0,1,7),(1,2,9)],.fact 38,.fact 6],[oL (.cb true),⟨.agg [.s,.b,.s],[(0,1,39),(1,2,40)]⟩],.fj [3,1,2] 3 3 [[3],[1,2],[]]⟩,
   .base ⟨47,[.fact 39],[oI 41,oS 42],.cE [3] true⟩,
   .base ⟨120,[.fact 42,.fact 0],oF,.cE [3] false⟩,
   .base ⟨114,[.fact 6],[oK 43],false⟩]
def Cx:List Step:=[bQ [.fact 6,.lit (.ci .u64 2)] oT (aA .gtr),
   .base ⟨115,[.fact 4,.fact 6],[oK 44],false⟩,
   bQ [.fact 44,.lit (.ci .u64 0)] oF (aA .eql),
   .base ⟨117,[.fact 0,.fact 6],[oS 45],.cu [] 1⟩,
   .base ⟨117,[.fact 1,.fact 6],[oS 46],.cu [] 2⟩,
   .base ⟨116,[.fact 45,.fact 46,.fact 6],[oS 47],.cI [1,2] [1,2] [([1],[1]),([2],[2]),([],[])] false⟩,
   .freed (.one (.s 28 0)) 47 48,
   bQ [.fact 48] [oN 49] (aD 126),
   bQ [.fact 49,.lit (.ci .i64 1)] oF (ak .eql),
   .base ⟨119,[.fact 47,.fact 44,.fact 6],[oS 50],.cI [1,2] [1,2] [([1,2],[1,2]),([],[]),([],[])] false⟩,
   .base ⟨118,[.parts (.agg [.s,.b,.s]) [(0,1,7),(1,2,9)],.fact 50,.fact 6],[oL (.cb true),⟨.agg [.s,.b,.s],[(0,1,51),(1,2,52)]⟩],.fj [3,1,2] 3 3 [[3],[1,2],[]]⟩,
   .base ⟨47,[.fact 51],[oI 53,oS 54],.cE [3] true⟩,
   .base ⟨120,[.fact 54,.fact 0],oT,.cE [3] false⟩,
   .base ⟨120,[.fact 54,.fact 1],oF,.cE [3] false⟩,
   .base ⟨114,[.fact 6],[oK 55],false⟩]
def PP:List Step:=[bQ [.fact 6,.lit (.ci .u64 2)] oT (aA .gtr),
   .base ⟨115,[.fact 4,.fact 6],[oK 56],false⟩,
   bQ [.fact 56,.lit (.ci .u64 0)] oF (aA .eql),
   .base ⟨117,[.fact 0,.fact 6],[oS 57],.cu [] 1⟩,
   .base ⟨117,[.fact 1,.fact 6],[oS 58],.cu [] 2⟩,
   .base ⟨116,[.fact 57,.fact 58,.fact 6],[oS 59],.cI [1,2] [1,2] [([1],[1]),([2],[2]),([],[])] false⟩,
   .freed (.one (.s 28 0)) 59 60,
   bQ [.fact 60] [oN 61] (aD 126),
   bQ [.fact 61,.lit (.ci .i64 1)] oF (ak .eql),
   .base ⟨119,[.fact 59,.fact 56,.fact 6],[oS 62],.cI [1,2] [1,2] [([1,2],[1,2]),([],[]),([],[])] false⟩,
   .base ⟨118,[.parts (.agg [.s,.b,.s]) [(0,1,7),(1,2,9)],.fact 62,.fact 6],[oL (.cb true),⟨.agg [.s,.b,.s],[(0,1,63),(1,2,64)]⟩],.fj [3,1,2] 3 3 [[3],[1,2],[]]⟩,
   .base ⟨47,[.fact 63],[oI 65,oS 66],.cE [3] true⟩,
   .base ⟨120,[.fact 66,.fact 0],oT,.cE [3] false⟩,
   .base ⟨120,[.fact 66,.fact 1],oT,.cE [3] false⟩]
def PQ:List Step:=[.base ⟨33,[.fact 0],[oI 2],false⟩,
   .base ⟨33,[.fact 1],[oI 3],false⟩,
   .base ⟨110,[.row 2 [2,3]],[oI 4],false⟩,
   .loop Cs [(Ct,[.frm 11,.frm 7,.frm 0,.frm 9]),(Cu,[.frm 21,.frm 19,.frm 0,.frm 20]),(Cv,[.frm 31,.frm 29,.frm 0,.frm 30]),(Cw,[.frm 43,.frm 39,.frm 0,.frm 40]),(Cx,[.frm 55,.frm 51,.frm 0,.frm 52])] PP]
def PR:List Out:=[oS 0,oS 1]
open Classical in
set_option maxHeartbeats 4000000 in
theorem PS {a b:Nat->Int}{la lb ka kb J:Nat}{lead:Int}{l:Nat->Nat}{gg x:Nat->Nat->Int} (hla:la<=1000) (hlb:lb<=1000) (lF:0<la) (ks:0<lb) (hka:ka<=100) (hkb:kb<=100) (ha0:∀i,la<=i->a i=0) (hb0:∀i,lb<=i->b i=0) (hta:tl a la=la) (htb:tl b lb=lb) (hba:∀i,Bd (a i).natAbs ka) (hbb:∀i,Bd (b i).natAbs kb) (hsz:(la+lb+1)*258<=80000)
  (hlead:((Int.gcd (a (la-1)) (b (lb-1)):Nat):Int)=lead) (hJ:J<256) (hJn:∀j,j<J->¬iR a b lead l x j)
  (hLL:∀k,gv (prK k) (img (prK k) a) (tl (img (prK k) a) la) (img (prK k) b) (tl (img (prK k) b) lb)=l k) (hGG:∀k,imG (prK k) (img (prK k) a) (tl (img (prK k) a) la) (img (prK k) b) (tl (img (prK k) b) lb)=gg k) (hXX:∀k,scl (prK k) (lead % ((prK k:Nat):Int)) (gg k)=x k)
  (hNe:∀k,k<=J->lead % ((prK k:Nat):Int)≠0->0<tl (img (prK k) a) la∨0<tl (img (prK k) b) lb) (hGV:∀k,k<=J->lead % ((prK k:Nat):Int)≠0->(∀i,0<=gg k i∧gg k i<((prK k:Nat):Int))∧0<l k∧l k<=1000)
  (hSB:∀k,k<=J+1->(∀i,Bd ((al lead l x k).2.2 i).natAbs 257)∧Bd (al lead l x k).2.1 258) (hSl:∀k,k<=J+1->(al lead l x k).1<=1000) (hH:∀k,k<=J->lead % ((prK k:Nat):Int)≠0->¬dg lead l x k->0<(aR lead l x k).length∧tl (ae (aR lead l x k)) (aR lead l x k).length=(aR lead l x k).length∧(aR lead l x k).length<=1000∧∀i,Bd (ae (aR lead l x k) i).natAbs 257) (hLn:lead % ((prK J:Nat):Int)≠0) (hl1:l J≠1) (hNP:¬dg lead l x J) (hYJ:iQ lead l x J) (hda:d6 (ae (aR lead l x J)) a) (hdb:d6 (ae (aR lead l x J)) b):ai (ph (uN a b la lb ka kb J lead l x)) Tryz.prog ⟨87,[.fact 0,.fact 1],[oS 5],false⟩:=by
 skip
 exact aV PR [oS 5] PQ Tryz.func87 (by kernel_rfl)
  (lB (iJ (z:=a) (n:=la) (Rw.To 2 (fun ι w v=>aC w v (a ι) ka) la (fun _ _ _ _ h=>h)) rfl (by omega) (by omega) (by rw [cD,hta,if_neg (by omega)]))
   (lB (iJ (z:=b) (n:=lb) (Rw.To 2 (fun ι w v=>aC w v (b ι) kb) lb (fun _ _ _ _ h=>h)) rfl (by omega) (by omega) (by rw [cD,htb,if_neg (by omega)]))
   (lB (Cy (ka+kb) nI nI rfl (by omega) (by omega) (by omega) hlead)
   (bz (counted J (fun j=>ph (uN a b la lb ka kb J lead l x ++ PO a b la lb lead l gg x j)) (fun j=>if lead % ((prK j:Nat):Int)=0 then 0 else if dg lead l x j then 1 else if ¬iQ lead l x j then 2 else if ¬d6 (ae (aR lead l x j)) a then 3 else 4) (fun j p hp=>bB (show p<(uN a b la lb ka kb J lead l x).length from hp)) ⟨fun _=>rfl,fun w=>Co w,aS,fun w=>af.zero w 258,trivial⟩ (fun j hj=>by
   have hP:=ot (k:=j) (by omega);have hPp:=fq (k:=j) (by omega);have hm0:=Int.emod_nonneg lead (b:=((prK j:Nat):Int)) (by omega);have hm1:=Int.emod_lt_of_pos lead (b:=((prK j:Nat):Int)) (by omega)
   by_cases hcj:lead % ((prK j:Nat):Int)=0
   ·skip
    exact ⟨(Ct,[.frm 11,.frm 7,.frm 0,.frm 9]),by rw [if_pos hcj];rfl,⟨ad,fun _ _ h=>Cp hcj h,aS,fun _ _ h=>Cq hcj h,trivial⟩,(lB (ugT ad)
   (lB (d9 (P:=(prK j)) nI ad rfl (by omega) (by omega) (by omega))
   (lB (cY (op:=.eql) ad (bT (beq_iff_eq.2 hcj) (by simp)))
   (lB (jg (k:=j) ad rfl (by omega) (ji (by omega)))
   aw))))⟩
   by_cases hdj:dg lead l x j
   ·have aO:lead % ((prK j:Nat):Int)≠0:=hcj;have eL:=hNe j (by omega) aO;have hGr:=(hGV j (by omega) aO).1;have hLl:=(hGV j (by omega) aO).2;have ht1:=aF (img (prK j) a) la;have ht2:=aF (img (prK j) b) lb;have hs0:=hSl j (by omega);have hs1:=hSl (j+1) (by omega);have hXr:∀i,0<=x j i∧x j i<((prK j:Nat):Int):=fun i=>(by rw [<- hXX j];exact ib (by omega) _ _ i);have hl1:l j≠1:=fun e=>hJn j hj ⟨aO,.inl e⟩;have hPs:=hdj
    exact ⟨(Cu,[.frm 21,.frm 19,.frm 0,.frm 20]),by rw [if_neg hcj,if_pos hdj];rfl,⟨ad,ad,aS,ad,trivial⟩,(lB (ugT ad)
   (lB (d9 (P:=(prK j)) nI ad rfl (by omega) (by omega) (by omega))
   (lB (cY (op:=.eql) ad (bT (beq_eq_false_iff_ne.2 aO) (by simp)))
   (lB (eC (P:=(prK j)) (Rw.To 2 (If a ka) la (fun _ _ _ _ h=>h)) ad rfl (by omega) (by omega) (by omega) (by omega))
   (lB (eC (P:=(prK j)) (Rw.To 2 (If b kb) lb (fun _ _ _ _ h=>h)) ad rfl (by omega) (by omega) (by omega) (by omega))
   (lB (jk (hGG j) (hLL j) ad ad ad rfl (by omega) (by omega) hPp (by omega) (dL (by omega) ha0) (dL (by omega) hb0) eL)
   (cV (cW (e:=103) (sz:=1) (n:=(l j)) (F:=(au .u64 (gg j))) ad rfl)
   (lB (ce (n:=(l j)) Tryz.underlying126 ad rfl)
   (lB (dO ad)
   (lB (jJ (hXX j) (js:=[1,2]) (by simp) ad ad ad rfl (by omega) (by omega) (by omega) ⟨by omega,by omega⟩ hGr)
   (lB (Cr ad ad (fun _ _ h=>ah.rw h) ad rfl rfl aO hPs)
   (lB (jg (k:=j) ad rfl (by omega) (ji (by omega)))
   aw))))))))))))⟩
   by_cases hej:¬iQ lead l x j
   ·have aO:lead % ((prK j:Nat):Int)≠0:=hcj;have eL:=hNe j (by omega) aO;have hGr:=(hGV j (by omega) aO).1;have hLl:=(hGV j (by omega) aO).2;have ht1:=aF (img (prK j) a) la;have ht2:=aF (img (prK j) b) lb;have hs0:=hSl j (by omega);have hs1:=hSl (j+1) (by omega);have hXr:∀i,0<=x j i∧x j i<((prK j:Nat):Int):=fun i=>(by rw [<- hXX j];exact ib (by omega) _ _ i);have hl1:l j≠1:=fun e=>hJn j hj ⟨aO,.inl e⟩;have hNP:¬dg lead l x j:=hdj;have hB1:∀i,Bd ((al lead l x (j+1)).2.2 i).natAbs 257:=(hSB (j+1) (by omega)).1;have hBM:=(hSB (j+1) (by omega)).2;have hS1:(al lead l x (j+1)).1=l j:=jj aO hNP;have hNY:=Cn hej
    exact ⟨(Cv,[.frm 31,.frm 29,.frm 0,.frm 30]),by rw [if_neg hcj,if_neg hdj,if_pos hej];rfl,⟨ad,ad,aS,ad,trivial⟩,(lB (ugT ad)
   (lB (d9 (P:=(prK j)) nI ad rfl (by omega) (by omega) (by omega))
   (lB (cY (op:=.eql) ad (bT (beq_eq_false_iff_ne.2 aO) (by simp)))
   (lB (eC (P:=(prK j)) (Rw.To 2 (If a ka) la (fun _ _ _ _ h=>h)) ad rfl (by omega) (by omega) (by omega) (by omega))
   (lB (eC (P:=(prK j)) (Rw.To 2 (If b kb) lb (fun _ _ _ _ h=>h)) ad rfl (by omega) (by omega) (by omega) (by omega))
   (lB (jk (hGG j) (hLL j) ad ad ad rfl (by omega) (by omega) hPp (by omega) (dL (by omega) ha0) (dL (by omega) hb0) eL)
   (cV (cW (e:=103) (sz:=1) (n:=(l j)) (F:=(au .u64 (gg j))) ad rfl)
   (lB (ce (n:=(l j)) Tryz.underlying126 ad rfl)
   (lB (dO ad)
   (lB (jJ (hXX j) (js:=[1,2]) (by simp) ad ad ad rfl (by omega) (by omega) (by omega) ⟨by omega,by omega⟩ hGr)
   (lB (lE ad ad (fun _ _ h=>ah.rw h) ad rfl rfl aO hNP (by omega) (by omega) (by omega) (by omega) (by omega) hXr hB1 hBM hNY)
   (lB (jg (k:=j) ad rfl (by omega) (ji (by omega)))
   aw))))))))))))⟩
   by_cases hfj:¬d6 (ae (aR lead l x j)) a
   ·have aO:lead % ((prK j:Nat):Int)≠0:=hcj;have eL:=hNe j (by omega) aO;have hGr:=(hGV j (by omega) aO).1;have hLl:=(hGV j (by omega) aO).2;have ht1:=aF (img (prK j) a) la;have ht2:=aF (img (prK j) b) lb;have hs0:=hSl j (by omega);have hs1:=hSl (j+1) (by omega);have hXr:∀i,0<=x j i∧x j i<((prK j:Nat):Int):=fun i=>(by rw [<- hXX j];exact ib (by omega) _ _ i);have hl1:l j≠1:=fun e=>hJn j hj ⟨aO,.inl e⟩;have hNP:¬dg lead l x j:=hdj;have hB1:∀i,Bd ((al lead l x (j+1)).2.2 i).natAbs 257:=(hSB (j+1) (by omega)).1;have hBM:=(hSB (j+1) (by omega)).2;have hS1:(al lead l x (j+1)).1=l j:=jj aO hNP;obtain ⟨hH0,hHt,hHl,hHb⟩:=hH j (by omega) aO hNP;have hY:=ou (Classical.not_not.1 hej)
    exact ⟨(Cw,[.frm 43,.frm 39,.frm 0,.frm 40]),by rw [if_neg hcj,if_neg hdj,if_neg hej,if_pos hfj];rfl,⟨ad,ad,aS,ad,trivial⟩,(lB (ugT ad)
   (lB (d9 (P:=(prK j)) nI ad rfl (by omega) (by omega) (by omega))
   (lB (cY (op:=.eql) ad (bT (beq_eq_false_iff_ne.2 aO) (by simp)))
   (lB (eC (P:=(prK j)) (Rw.To 2 (If a ka) la (fun _ _ _ _ h=>h)) ad rfl (by omega) (by omega) (by omega) (by omega))
   (lB (eC (P:=(prK j)) (Rw.To 2 (If b kb) lb (fun _ _ _ _ h=>h)) ad rfl (by omega) (by omega) (by omega) (by omega))
   (lB (jk (hGG j) (hLL j) ad ad ad rfl (by omega) (by omega) hPp (by omega) (dL (by omega) ha0) (dL (by omega) hb0) eL)
   (cV (cW (e:=103) (sz:=1) (n:=(l j)) (F:=(au .u64 (gg j))) ad rfl)
   (lB (ce (n:=(l j)) Tryz.underlying126 ad rfl)
   (lB (dO ad)
   (lB (jJ (hXX j) (js:=[1,2]) (by simp) ad ad ad rfl (by omega) (by omega) (by omega) ⟨by omega,by omega⟩ hGr)
   (lB (lE ad ad (fun _ _ h=>ah.rw h) ad rfl rfl aO hNP (by omega) (by omega) (by omega) (by omega) (by omega) hXr hB1 hBM hY)
   (lB (de [3] (ow (k:=j) (l:=l) (x:=x) (lead:=lead) (fun _ _ h=>ah.rw h) rfl rfl aO hNP (by omega)))
   (lB (de [3] (kw (z:=a) (y:=ae (aR lead l x j)) (Rw.To 2 (Nf (ae (aR lead l x j)) 257) ((aR lead l x j).length) (fun _ _ _ _ h=>af.i h)) (Rw.To 2 (If a ka) la (fun _ _ _ _ h=>h)) (by omega) (by omega) hba hHb (by omega) ha0 hta (fun i hi=>dC hi) hHt hH0 (by simp only [Bool.false_eq_true,false_iff];exact hfj)))
   (lB (jg (k:=j) ad rfl (by omega) (ji (by omega)))
   aw))))))))))))))⟩
   ·have aO:lead % ((prK j:Nat):Int)≠0:=hcj;have eL:=hNe j (by omega) aO;have hGr:=(hGV j (by omega) aO).1;have hLl:=(hGV j (by omega) aO).2;have ht1:=aF (img (prK j) a) la;have ht2:=aF (img (prK j) b) lb;have hs0:=hSl j (by omega);have hs1:=hSl (j+1) (by omega);have hXr:∀i,0<=x j i∧x j i<((prK j:Nat):Int):=fun i=>(by rw [<- hXX j];exact ib (by omega) _ _ i);have hl1:l j≠1:=fun e=>hJn j hj ⟨aO,.inl e⟩;have hNP:¬dg lead l x j:=hdj;have hB1:∀i,Bd ((al lead l x (j+1)).2.2 i).natAbs 257:=(hSB (j+1) (by omega)).1;have hBM:=(hSB (j+1) (by omega)).2;have hS1:(al lead l x (j+1)).1=l j:=jj aO hNP;obtain ⟨hH0,hHt,hHl,hHb⟩:=hH j (by omega) aO hNP;have hY:=ou (Classical.not_not.1 hej);have hda:=Classical.not_not.1 hfj;have hdb:¬d6 (ae (aR lead l x j)) b:=fun h=>hJn j hj ⟨aO,.inr ⟨hNP,Classical.not_not.1 hej,hda,h⟩⟩
    exact ⟨(Cx,[.frm 55,.frm 51,.frm 0,.frm 52]),by rw [if_neg hcj,if_neg hdj,if_neg hej,if_neg hfj];rfl,⟨ad,ad,aS,ad,trivial⟩,(lB (ugT ad)
   (lB (d9 (P:=(prK j)) nI ad rfl (by omega) (by omega) (by omega))
   (lB (cY (op:=.eql) ad (bT (beq_eq_false_iff_ne.2 aO) (by simp)))
   (lB (eC (P:=(prK j)) (Rw.To 2 (If a ka) la (fun _ _ _ _ h=>h)) ad rfl (by omega) (by omega) (by omega) (by omega))
   (lB (eC (P:=(prK j)) (Rw.To 2 (If b kb) lb (fun _ _ _ _ h=>h)) ad rfl (by omega) (by omega) (by omega) (by omega))
   (lB (jk (hGG j) (hLL j) ad ad ad rfl (by omega) (by omega) hPp (by omega) (dL (by omega) ha0) (dL (by omega) hb0) eL)
   (cV (cW (e:=103) (sz:=1) (n:=(l j)) (F:=(au .u64 (gg j))) ad rfl)
   (lB (ce (n:=(l j)) Tryz.underlying126 ad rfl)
   (lB (dO ad)
   (lB (jJ (hXX j) (js:=[1,2]) (by simp) ad ad ad rfl (by omega) (by omega) (by omega) ⟨by omega,by omega⟩ hGr)
   (lB (lE ad ad (fun _ _ h=>ah.rw h) ad rfl rfl aO hNP (by omega) (by omega) (by omega) (by omega) (by omega) hXr hB1 hBM hY)
   (lB (de [3] (ow (k:=j) (l:=l) (x:=x) (lead:=lead) (fun _ _ h=>ah.rw h) rfl rfl aO hNP (by omega)))
   (lB (de [3] (kw (z:=a) (y:=ae (aR lead l x j)) (Rw.To 2 (Nf (ae (aR lead l x j)) 257) ((aR lead l x j).length) (fun _ _ _ _ h=>af.i h)) (Rw.To 2 (If a ka) la (fun _ _ _ _ h=>h)) (by omega) (by omega) hba hHb (by omega) ha0 hta (fun i hi=>dC hi) hHt hH0 (by simp only [true_iff];exact hda)))
   (lB (de [3] (kw (z:=b) (y:=ae (aR lead l x j)) (Rw.To 2 (Nf (ae (aR lead l x j)) 257) ((aR lead l x j).length) (fun _ _ _ _ h=>af.i h)) (Rw.To 2 (If b kb) lb (fun _ _ _ _ h=>h)) (by omega) (by omega) hbb hHb (by omega) hb0 htb (fun i hi=>dC hi) hHt hH0 (by simp only [Bool.false_eq_true,false_iff];exact hdb)))
   (lB (jg (k:=j) ad rfl (by omega) (ji (by omega)))
   aw)))))))))))))))⟩
)
   (by
   have hP:=ot (k:=J) (by omega);have hPp:=fq (k:=J) (by omega);have hm0:=Int.emod_nonneg lead (b:=((prK J:Nat):Int)) (by omega);have hm1:=Int.emod_lt_of_pos lead (b:=((prK J:Nat):Int)) (by omega);have aO:lead % ((prK J:Nat):Int)≠0:=hLn;have eL:=hNe J (by omega) aO;have hGr:=(hGV J (by omega) aO).1;have hLl:=(hGV J (by omega) aO).2;have ht1:=aF (img (prK J) a) la;have ht2:=aF (img (prK J) b) lb;have hs0:=hSl J (by omega);have hs1:=hSl (J+1) (Nat.le_refl _);have hXr:∀i,0<=x J i∧x J i<((prK J:Nat):Int):=fun i=>(by rw [<- hXX J];exact ib (by omega) _ _ i);have hB1:=(hSB (J+1) (by omega)).1;have hBM:=(hSB (J+1) (by omega)).2;have hS1:(al lead l x (J+1)).1=l J:=jj aO hNP;have hY:=ou hYJ;obtain ⟨hH0,hHt,hHl,hHb⟩:=hH J (by omega) aO hNP
   exact (lB (ugT ad)
   (lB (d9 (P:=(prK (J))) nI ad rfl (by omega) (by omega) (by omega))
   (lB (cY (op:=.eql) ad (bT (beq_eq_false_iff_ne.2 hLn) (by simp)))
   (lB (eC (P:=(prK (J))) (Rw.To 2 (If a ka) la (fun _ _ _ _ h=>h)) ad rfl (by omega) (by omega) (by omega) (by omega))
   (lB (eC (P:=(prK (J))) (Rw.To 2 (If b kb) lb (fun _ _ _ _ h=>h)) ad rfl (by omega) (by omega) (by omega) (by omega))
   (lB (jk (hGG (J)) (hLL (J)) ad ad ad rfl (by omega) (by omega) hPp (by omega) (dL (by omega) ha0) (dL (by omega) hb0) eL)
   (cV (cW (e:=103) (sz:=1) (n:=(l (J))) (F:=(au .u64 (gg (J)))) ad rfl)
   (lB (ce (n:=(l (J))) Tryz.underlying126 ad rfl)
   (lB (dO ad)
   (lB (jJ (hXX (J)) (js:=[1,2]) (by simp) ad ad ad rfl (by omega) (by omega) (by omega) ⟨by omega,by omega⟩ hGr)
   (lB (lE ad ad (fun _ _ h=>ah.rw h) ad rfl rfl aO hNP (by omega) (by omega) (by omega) (by omega) (by omega) hXr hB1 hBM hY)
   (lB (de [3] (ow (k:=(J)) (l:=l) (x:=x) (lead:=lead) (fun _ _ h=>ah.rw h) rfl rfl aO hNP (by omega)))
   (lB (de [3] (kw (z:=a) (y:=ae (aR lead l x (J))) (Rw.To 2 (Nf (ae (aR lead l x (J))) 257) ((aR lead l x (J)).length) (fun _ _ _ _ h=>af.i h)) (Rw.To 2 (If a ka) la (fun _ _ _ _ h=>h)) (by omega) (by omega) hba hHb (by omega) ha0 hta (fun i hi=>dC hi) hHt hH0 (by simp only [true_iff];exact hda)))
   (lB (de [3] (kw (z:=b) (y:=ae (aR lead l x (J))) (Rw.To 2 (Nf (ae (aR lead l x (J))) 257) ((aR lead l x (J)).length) (fun _ _ _ _ h=>af.i h)) (Rw.To 2 (If b kb) lb (fun _ _ _ _ h=>h)) (by omega) (by omega) hbb hHb (by omega) hb0 htb (fun i hi=>dC hi) hHt hH0 (by simp only [true_iff];exact hdb)))
   aw)))))))))))))))
   (fun q hq w v h=>by
    simp only [Cs,List.mem_cons,List.not_mem_nil,or_false] at hq
    rcases hq with rfl
    ·exact (fun h=>h) h)) aw))))
  (aL [.fact 0 (.one (.s)),.fact 1 (.one (.s))] ⟨Rw.Is 2 (If a ka) la,Rw.Is 2 (If b kb) lb,trivial⟩) bc
def uO (a b:Nat->Int) (la lb ka kb:Nat) (lead:Int):List WP:=[Rw 2 (If a ka) la,Rw 2 (If b kb) lb,Nw (a (la-1)) ka,Nw (b (lb-1)) kb,Nw lead (ka+kb),Ni 1,fun w v=>Rw 1 (fun i _ v=>v = .agg #[.int .i64 ((fun _=>1) i)]) 1 w v,Rw 2 (Nf (ae [1]) 2) (([1]:List Int).length)]
def PT (a b:Nat->Int) (la lb:Nat) (lead:Int) (l:Nat->Nat) (gg x:Nat->Nat->Int) (j:Nat):List WP:=[Nu ((prK j:Nat):Int),ah 2 52 (Nf ((al lead l x j).2.2) 257) ((al lead l x j).1),fun _ _=>True,Nw (((al lead l x j).2.1:Nat):Int) 258,Nu (lead % (((prK j):Nat):Int)),Nu ((prK (j+1):Nat):Int),Nu (lead % (((prK j):Nat):Int)),ah 1 103 (au .u64 (img (prK j) a)) (tl (img (prK j) a) la),ah 1 103 (au .u64 (img (prK j) b)) (tl (img (prK j) b) lb),ah 1 103 (au .u64 (gg j)) (l j),b9 (l j),Nz (l j),ah 1 103 (au .u64 (x j)) (l j),fun w v=>ah 2 52 (fun ι w v=>af w v ((al lead l x (j+1)).2.2 ι) 257) ((al lead l x (j+1)).1) w v,Nw (((al lead l x (j+1)).2.1:Nat):Int) 258,Nu ((prK (j+1):Nat):Int),Nu (lead % (((prK j):Nat):Int)),ah 1 103 (au .u64 (img (prK j) a)) (tl (img (prK j) a) la),ah 1 103 (au .u64 (img (prK j) b)) (tl (img (prK j) b) lb),ah 1 103 (au .u64 (gg j)) (l j),b9 (l j),Nz (l j),ah 1 103 (au .u64 (x j)) (l j),fun w v=>ah 2 52 (fun ι w v=>af w v ((al lead l x (j+1)).2.2 ι) 257) ((al lead l x (j+1)).1) w v,Nw (((al lead l x (j+1)).2.1:Nat):Int) 258,Nu ((prK (j+1):Nat):Int),Nu (lead % (((prK j):Nat):Int)),ah 1 103 (au .u64 (img (prK j) a)) (tl (img (prK j) a) la),ah 1 103 (au .u64 (img (prK j) b)) (tl (img (prK j) b) lb),ah 1 103 (au .u64 (gg j)) (l j),b9 (l j),Nz (l j),ah 1 103 (au .u64 (x j)) (l j),fun w v=>ah 2 52 (fun ι w v=>af w v ((al lead l x (j+1)).2.2 ι) 257) ((al lead l x (j+1)).1) w v,Nw (((al lead l x (j+1)).2.1:Nat):Int) 258,Nw (bS (al lead l x (j+1)).2.2 (al lead l x (j+1)).1) 257,Rw 2 (Nf (ae (aR lead l x j)) 257) ((aR lead l x j).length),Nu ((prK (j+1):Nat):Int),Nu (lead % (((prK j):Nat):Int)),ah 1 103 (au .u64 (img (prK j) a)) (tl (img (prK j) a) la),ah 1 103 (au .u64 (img (prK j) b)) (tl (img (prK j) b) lb),ah 1 103 (au .u64 (gg j)) (l j),b9 (l j),Nz (l j),ah 1 103 (au .u64 (x j)) (l j),fun w v=>ah 2 52 (fun ι w v=>af w v ((al lead l x (j+1)).2.2 ι) 257) ((al lead l x (j+1)).1) w v,Nw (((al lead l x (j+1)).2.1:Nat):Int) 258,Nw (bS (al lead l x (j+1)).2.2 (al lead l x (j+1)).1) 257,Rw 2 (Nf (ae (aR lead l x j)) 257) ((aR lead l x j).length),Nu ((prK (j+1):Nat):Int),Nu (lead % (((prK j):Nat):Int)),ah 1 103 (au .u64 (img (prK j) a)) (tl (img (prK j) a) la),ah 1 103 (au .u64 (img (prK j) b)) (tl (img (prK j) b) lb),ah 1 103 (au .u64 (gg j)) (l j),b9 (l j),Nz (l j)]
def PU:bg:=⟨[0,1,4,5,6,12,13,14,15,16,17],[(.slot 7,.nk),(.cell 10 0,.s),(.cell 10 1,.b),(.cell 10 2,.s)],[(.one 0,8),(.one 1,.Ru [3] 9),(.one 1,.lo 3),(.agg [2,3],.Ru [3] 11)],[.closed (.one (.ci .u64 2147483647)),.closed (.one (.nl)),.frm 0,.closed (.agg [.cb false,.nl])],8,[]⟩
def CA:List Step:=[bQ [.fact 8,.lit (.ci .u64 2)] oT (aA .gtr),
   .base ⟨115,[.fact 4,.fact 8],[oK 12],false⟩,
   bQ [.fact 12,.lit (.ci .u64 0)] oT (aA .eql),
   .base ⟨114,[.fact 8],[oK 13],false⟩]
def CB:List Step:=[bQ [.fact 8,.lit (.ci .u64 2)] oT (aA .gtr),
   .base ⟨115,[.fact 4,.fact 8],[oK 14],false⟩,
   bQ [.fact 14,.lit (.ci .u64 0)] oF (aA .eql),
   .base ⟨117,[.fact 0,.fact 8],[oS 15],.cu [] 1⟩,
   .base ⟨117,[.fact 1,.fact 8],[oS 16],.cu [] 2⟩,
   .base ⟨116,[.fact 15,.fact 16,.fact 8],[oS 17],.cI [1,2] [1,2] [([1],[1]),([2],[2]),([],[])] false⟩,
   .freed (.one (.s 28 0)) 17 18,
   bQ [.fact 18] [oN 19] (aD 126),
   bQ [.fact 19,.lit (.ci .i64 1)] oF (ak .eql),
   .base ⟨119,[.fact 17,.fact 14,.fact 8],[oS 20],.cI [1,2] [1,2] [([1,2],[1,2]),([],[]),([],[])] false⟩,
   .base ⟨118,[.parts (.agg [.s,.b,.s]) [(0,1,9),(1,2,11)],.fact 20,.fact 8],[oL (.cb false),⟨.agg [.s,.b,.s],[(0,1,21),(1,2,22)]⟩],.fj [3,1,2] 3 3 [[3],[1,2],[]]⟩,
   .base ⟨114,[.fact 8],[oK 23],false⟩]
def CC:List Step:=[bQ [.fact 8,.lit (.ci .u64 2)] oT (aA .gtr),
   .base ⟨115,[.fact 4,.fact 8],[oK 24],false⟩,
   bQ [.fact 24,.lit (.ci .u64 0)] oF (aA .eql),
   .base ⟨117,[.fact 0,.fact 8],[oS 25],.cu [] 1⟩,
   .base ⟨117,[.fact 1,.fact 8],[oS 26],.cu [] 2⟩,
   .base ⟨116,[.fact 25,.fact 26,.fact 8],[oS 27],.cI [1,2] [1,2] [([1],[1]),([2],[2]),([],[])] false⟩,
   .freed (.one (.s 28 0)) 27 28,
   bQ [.fact 28] [oN 29] (aD 126),
   bQ [.fact 29,.lit (.ci .i64 1)] oF (ak .eql),
   .base ⟨119,[.fact 27,.fact 24,.fact 8],[oS 30],.cI [1,2] [1,2] [([1,2],[1,2]),([],[]),([],[])] false⟩,
   .base ⟨118,[.parts (.agg [.s,.b,.s]) [(0,1,9),(1,2,11)],.fact 30,.fact 8],[oL (.cb false),⟨.agg [.s,.b,.s],[(0,1,31),(1,2,32)]⟩],.fj [3,1,2] 3 3 [[3],[1,2],[]]⟩,
   .base ⟨114,[.fact 8],[oK 33],false⟩]
def CD:List Step:=[bQ [.fact 8,.lit (.ci .u64 2)] oT (aA .gtr),
   .base ⟨115,[.fact 4,.fact 8],[oK 34],false⟩,
   bQ [.fact 34,.lit (.ci .u64 0)] oF (aA .eql),
   .base ⟨117,[.fact 0,.fact 8],[oS 35],.cu [] 1⟩,
   .base ⟨117,[.fact 1,.fact 8],[oS 36],.cu [] 2⟩,
   .base ⟨116,[.fact 35,.fact 36,.fact 8],[oS 37],.cI [1,2] [1,2] [([1],[1]),([2],[2]),([],[])] false⟩,
   .freed (.one (.s 28 0)) 37 38,
   bQ [.fact 38] [oN 39] (aD 126),
   bQ [.fact 39,.lit (.ci .i64 1)] oF (ak .eql),
   .base ⟨119,[.fact 37,.fact 34,.fact 8],[oS 40],.cI [1,2] [1,2] [([1,2],[1,2]),([],[]),([],[])] false⟩,
   .base ⟨118,[.parts (.agg [.s,.b,.s]) [(0,1,9),(1,2,11)],.fact 40,.fact 8],[oL (.cb true),⟨.agg [.s,.b,.s],[(0,1,41),(1,2,42)]⟩],.fj [3,1,2] 3 3 [[3],[1,2],[]]⟩,
   .base ⟨47,[.fact 41],[oI 43,oS 44],.cE [3] true⟩,
   .base ⟨120,[.fact 44,.fact 0],oF,.cE [3] false⟩,
   .base ⟨114,[.fact 8],[oK 45],false⟩]
def CE:List Step:=[bQ [.fact 8,.lit (.ci .u64 2)] oT (aA .gtr),
   .base ⟨115,[.fact 4,.fact 8],[oK 46],false⟩,
   bQ [.fact 46,.lit (.ci .u64 0)] oF (aA .eql),
   .base ⟨117,[.fact 0,.fact 8],[oS 47],.cu [] 1⟩,
   .base ⟨117,[.fact 1,.fact 8],[oS 48],.cu [] 2⟩,
   .base ⟨116,[.fact 47,.fact 48,.fact 8],[oS 49],.cI [1,2] [1,2] [([1],[1]),([2],[2]),([],[])] false⟩,
   .freed (.one (.s 28 0)) 49 50,
   bQ [.fact 50] [oN 51] (aD 126),
   bQ [.fact 51,.lit (.ci .i64 1)] oF (ak .eql),
   .base ⟨119,[.fact 49,.fact 46,.fact 8],[oS 52],.cI [1,2] [1,2] [([1,2],[1,2]),([],[]),([],[])] false⟩,
   .base ⟨118,[.parts (.agg [.s,.b,.s]) [(0,1,9),(1,2,11)],.fact 52,.fact 8],[oL (.cb true),⟨.agg [.s,.b,.s],[(0,1,53),(1,2,54)]⟩],.fj [3,1,2] 3 3 [[3],[1,2],[]]⟩,
   .base ⟨47,[.fact 53],[oI 55,oS 56],.cE [3] true⟩,
   .base ⟨120,[.fact 56,.fact 0],oT,.cE [3] false⟩,
   .base ⟨120,[.fact 56,.fact 1],oF,.cE [3] false⟩,
   .base ⟨114,[.fact 8],[oK 57],false⟩]
def PV:List Step:=[bQ [.fact 8,.lit (.ci .u64 2)] oT (aA .gtr),
   .base ⟨115,[.fact 4,.fact 8],[oK 58],false⟩,
   bQ [.fact 58,.lit (.ci .u64 0)] oF (aA .eql),
   .base ⟨117,[.fact 0,.fact 8],[oS 59],.cu [] 1⟩,
   .base ⟨117,[.fact 1,.fact 8],[oS 60],.cu [] 2⟩,
   .base ⟨116,[.fact 59,.fact 60,.fact 8],[oS 61],.cI [1,2] [1,2] [([1],[1]),([2],[2]),([],[])] false⟩,
   .freed (.one (.s 28 0)) 61 62,
   bQ [.fact 62] [oN 63] (aD 126),
   bQ [.fact 63,.lit (.ci .i64 1)] oT (ak .eql)]
def PW:List Step:=[.base ⟨33,[.fact 0],[oI 2],false⟩,
   .base ⟨33,[.fact 1],[oI 3],false⟩,
   .base ⟨110,[.row 2 [2,3]],[oI 4],false⟩,
   .loop PU [(CA,[.frm 13,.frm 9,.frm 0,.frm 11]),(CB,[.frm 23,.frm 21,.frm 0,.frm 22]),(CC,[.frm 33,.frm 31,.frm 0,.frm 32]),(CD,[.frm 45,.frm 41,.frm 0,.frm 42]),(CE,[.frm 57,.frm 53,.frm 0,.frm 54])] PV,
   .derive (.one (.ci .i64 1)) (.one (.lit (.ci .i64 1))) [] 5,
   .base ⟨0,[.any,.fact 5],[oS 6],.loose [] 11 0 (cj 22 1)⟩,
   .base ⟨27,[.fact 6],[oS 7],.cE [11] false⟩]
def ZO:List Out:=[oS 0,oS 1]
open Classical in
set_option maxHeartbeats 4000000 in
theorem ZP {a b:Nat->Int}{la lb ka kb J:Nat}{lead:Int}{l:Nat->Nat}{gg x:Nat->Nat->Int} (hla:la<=1000) (hlb:lb<=1000) (lF:0<la) (ks:0<lb) (hka:ka<=100) (hkb:kb<=100) (ha0:∀i,la<=i->a i=0) (hb0:∀i,lb<=i->b i=0) (hta:tl a la=la) (htb:tl b lb=lb) (hba:∀i,Bd (a i).natAbs ka) (hbb:∀i,Bd (b i).natAbs kb) (hsz:(la+lb+1)*258<=80000)
  (hlead:((Int.gcd (a (la-1)) (b (lb-1)):Nat):Int)=lead) (hJ:J<256) (hJn:∀j,j<J->¬iR a b lead l x j)
  (hLL:∀k,gv (prK k) (img (prK k) a) (tl (img (prK k) a) la) (img (prK k) b) (tl (img (prK k) b) lb)=l k) (hGG:∀k,imG (prK k) (img (prK k) a) (tl (img (prK k) a) la) (img (prK k) b) (tl (img (prK k) b) lb)=gg k) (hXX:∀k,scl (prK k) (lead % ((prK k:Nat):Int)) (gg k)=x k)
  (hNe:∀k,k<=J->lead % ((prK k:Nat):Int)≠0->0<tl (img (prK k) a) la∨0<tl (img (prK k) b) lb) (hGV:∀k,k<=J->lead % ((prK k:Nat):Int)≠0->(∀i,0<=gg k i∧gg k i<((prK k:Nat):Int))∧0<l k∧l k<=1000)
  (hSB:∀k,k<=J+1->(∀i,Bd ((al lead l x k).2.2 i).natAbs 257)∧Bd (al lead l x k).2.1 258) (hSl:∀k,k<=J+1->(al lead l x k).1<=1000) (hH:∀k,k<=J->lead % ((prK k:Nat):Int)≠0->¬dg lead l x k->0<(aR lead l x k).length∧tl (ae (aR lead l x k)) (aR lead l x k).length=(aR lead l x k).length∧(aR lead l x k).length<=1000∧∀i,Bd (ae (aR lead l x k) i).natAbs 257) (hLn:lead % ((prK J:Nat):Int)≠0) (hl1:l J=1):ai (ph (uO a b la lb ka kb lead)) Tryz.prog ⟨87,[.fact 0,.fact 1],[oS 7],false⟩:=by
 skip
 exact aV ZO [oS 7] PW Tryz.func87 (by kernel_rfl)
  (lB (iJ (z:=a) (n:=la) (Rw.To 2 (fun ι w v=>aC w v (a ι) ka) la (fun _ _ _ _ h=>h)) rfl (by omega) (by omega) (by rw [cD,hta,if_neg (by omega)]))
   (lB (iJ (z:=b) (n:=lb) (Rw.To 2 (fun ι w v=>aC w v (b ι) kb) lb (fun _ _ _ _ h=>h)) rfl (by omega) (by omega) (by rw [cD,htb,if_neg (by omega)]))
   (lB (Cy (ka+kb) nI nI rfl (by omega) (by omega) (by omega) hlead)
   (bz (counted J (fun j=>ph (uO a b la lb ka kb lead ++ PT a b la lb lead l gg x j)) (fun j=>if lead % ((prK j:Nat):Int)=0 then 0 else if dg lead l x j then 1 else if ¬iQ lead l x j then 2 else if ¬d6 (ae (aR lead l x j)) a then 3 else 4) (fun j p hp=>bB (show p<(uO a b la lb ka kb lead).length from hp)) ⟨fun _=>rfl,fun w=>Co w,aS,fun w=>af.zero w 258,trivial⟩ (fun j hj=>by
   have hP:=ot (k:=j) (by omega);have hPp:=fq (k:=j) (by omega);have hm0:=Int.emod_nonneg lead (b:=((prK j:Nat):Int)) (by omega);have hm1:=Int.emod_lt_of_pos lead (b:=((prK j:Nat):Int)) (by omega)
   by_cases hcj:lead % ((prK j:Nat):Int)=0
   ·skip
    exact ⟨(CA,[.frm 13,.frm 9,.frm 0,.frm 11]),by rw [if_pos hcj];rfl,⟨ad,fun _ _ h=>Cp hcj h,aS,fun _ _ h=>Cq hcj h,trivial⟩,(lB (ugT ad)
   (lB (d9 (P:=(prK j)) nI ad rfl (by omega) (by omega) (by omega))
   (lB (cY (op:=.eql) ad (bT (beq_iff_eq.2 hcj) (by simp)))
   (lB (jg (k:=j) ad rfl (by omega) (ji (by omega)))
   aw))))⟩
   by_cases hdj:dg lead l x j
   ·have aO:lead % ((prK j:Nat):Int)≠0:=hcj;have eL:=hNe j (by omega) aO;have hGr:=(hGV j (by omega) aO).1;have hLl:=(hGV j (by omega) aO).2;have ht1:=aF (img (prK j) a) la;have ht2:=aF (img (prK j) b) lb;have hs0:=hSl j (by omega);have hs1:=hSl (j+1) (by omega);have hXr:∀i,0<=x j i∧x j i<((prK j:Nat):Int):=fun i=>(by rw [<- hXX j];exact ib (by omega) _ _ i);have hl1:l j≠1:=fun e=>hJn j hj ⟨aO,.inl e⟩;have hPs:=hdj
    exact ⟨(CB,[.frm 23,.frm 21,.frm 0,.frm 22]),by rw [if_neg hcj,if_pos hdj];rfl,⟨ad,ad,aS,ad,trivial⟩,(lB (ugT ad)
   (lB (d9 (P:=(prK j)) nI ad rfl (by omega) (by omega) (by omega))
   (lB (cY (op:=.eql) ad (bT (beq_eq_false_iff_ne.2 aO) (by simp)))
   (lB (eC (P:=(prK j)) (Rw.To 2 (If a ka) la (fun _ _ _ _ h=>h)) ad rfl (by omega) (by omega) (by omega) (by omega))
   (lB (eC (P:=(prK j)) (Rw.To 2 (If b kb) lb (fun _ _ _ _ h=>h)) ad rfl (by omega) (by omega) (by omega) (by omega))
   (lB (jk (hGG j) (hLL j) ad ad ad rfl (by omega) (by omega) hPp (by omega) (dL (by omega) ha0) (dL (by omega) hb0) eL)
   (cV (cW (e:=103) (sz:=1) (n:=(l j)) (F:=(au .u64 (gg j))) ad rfl)
   (lB (ce (n:=(l j)) Tryz.underlying126 ad rfl)
   (lB (dO ad)
   (lB (jJ (hXX j) (js:=[1,2]) (by simp) ad ad ad rfl (by omega) (by omega) (by omega) ⟨by omega,by omega⟩ hGr)
   (lB (Cr ad ad (fun _ _ h=>ah.rw h) ad rfl rfl aO hPs)
   (lB (jg (k:=j) ad rfl (by omega) (ji (by omega)))
   aw))))))))))))⟩
   by_cases hej:¬iQ lead l x j
   ·have aO:lead % ((prK j:Nat):Int)≠0:=hcj;have eL:=hNe j (by omega) aO;have hGr:=(hGV j (by omega) aO).1;have hLl:=(hGV j (by omega) aO).2;have ht1:=aF (img (prK j) a) la;have ht2:=aF (img (prK j) b) lb;have hs0:=hSl j (by omega);have hs1:=hSl (j+1) (by omega);have hXr:∀i,0<=x j i∧x j i<((prK j:Nat):Int):=fun i=>(by rw [<- hXX j];exact ib (by omega) _ _ i);have hl1:l j≠1:=fun e=>hJn j hj ⟨aO,.inl e⟩;have hNP:¬dg lead l x j:=hdj;have hB1:∀i,Bd ((al lead l x (j+1)).2.2 i).natAbs 257:=(hSB (j+1) (by omega)).1;have hBM:=(hSB (j+1) (by omega)).2;have hS1:(al lead l x (j+1)).1=l j:=jj aO hNP;have hNY:=Cn hej
    exact ⟨(CC,[.frm 33,.frm 31,.frm 0,.frm 32]),by rw [if_neg hcj,if_neg hdj,if_pos hej];rfl,⟨ad,ad,aS,ad,trivial⟩,(lB (ugT ad)
   (lB (d9 (P:=(prK j)) nI ad rfl (by omega) (by omega) (by omega))
   (lB (cY (op:=.eql) ad (bT (beq_eq_false_iff_ne.2 aO) (by simp)))
   (lB (eC (P:=(prK j)) (Rw.To 2 (If a ka) la (fun _ _ _ _ h=>h)) ad rfl (by omega) (by omega) (by omega) (by omega))
   (lB (eC (P:=(prK j)) (Rw.To 2 (If b kb) lb (fun _ _ _ _ h=>h)) ad rfl (by omega) (by omega) (by omega) (by omega))
   (lB (jk (hGG j) (hLL j) ad ad ad rfl (by omega) (by omega) hPp (by omega) (dL (by omega) ha0) (dL (by omega) hb0) eL)
   (cV (cW (e:=103) (sz:=1) (n:=(l j)) (F:=(au .u64 (gg j))) ad rfl)
   (lB (ce (n:=(l j)) Tryz.underlying126 ad rfl)
   (lB (dO ad)
   (lB (jJ (hXX j) (js:=[1,2]) (by simp) ad ad ad rfl (by omega) (by omega) (by omega) ⟨by omega,by omega⟩ hGr)
   (lB (lE ad ad (fun _ _ h=>ah.rw h) ad rfl rfl aO hNP (by omega) (by omega) (by omega) (by omega) (by omega) hXr hB1 hBM hNY)
   (lB (jg (k:=j) ad rfl (by omega) (ji (by omega)))
   aw))))))))))))⟩
   by_cases hfj:¬d6 (ae (aR lead l x j)) a
   ·have aO:lead % ((prK j:Nat):Int)≠0:=hcj;have eL:=hNe j (by omega) aO;have hGr:=(hGV j (by omega) aO).1;have hLl:=(hGV j (by omega) aO).2;have ht1:=aF (img (prK j) a) la;have ht2:=aF (img (prK j) b) lb;have hs0:=hSl j (by omega);have hs1:=hSl (j+1) (by omega);have hXr:∀i,0<=x j i∧x j i<((prK j:Nat):Int):=fun i=>(by rw [<- hXX j];exact ib (by omega) _ _ i);have hl1:l j≠1:=fun e=>hJn j hj ⟨aO,.inl e⟩;have hNP:¬dg lead l x j:=hdj;have hB1:∀i,Bd ((al lead l x (j+1)).2.2 i).natAbs 257:=(hSB (j+1) (by omega)).1;have hBM:=(hSB (j+1) (by omega)).2;have hS1:(al lead l x (j+1)).1=l j:=jj aO hNP;obtain ⟨hH0,hHt,hHl,hHb⟩:=hH j (by omega) aO hNP;have hY:=ou (Classical.not_not.1 hej)
    exact ⟨(CD,[.frm 45,.frm 41,.frm 0,.frm 42]),by rw [if_neg hcj,if_neg hdj,if_neg hej,if_pos hfj];rfl,⟨ad,ad,aS,ad,trivial⟩,(lB (ugT ad)
   (lB (d9 (P:=(prK j)) nI ad rfl (by omega) (by omega) (by omega))
   (lB (cY (op:=.eql) ad (bT (beq_eq_false_iff_ne.2 aO) (by simp)))
   (lB (eC (P:=(prK j)) (Rw.To 2 (If a ka) la (fun _ _ _ _ h=>h)) ad rfl (by omega) (by omega) (by omega) (by omega))
   (lB (eC (P:=(prK j)) (Rw.To 2 (If b kb) lb (fun _ _ _ _ h=>h)) ad rfl (by omega) (by omega) (by omega) (by omega))
   (lB (jk (hGG j) (hLL j) ad ad ad rfl (by omega) (by omega) hPp (by omega) (dL (by omega) ha0) (dL (by omega) hb0) eL)
   (cV (cW (e:=103) (sz:=1) (n:=(l j)) (F:=(au .u64 (gg j))) ad rfl)
   (lB (ce (n:=(l j)) Tryz.underlying126 ad rfl)
   (lB (dO ad)
   (lB (jJ (hXX j) (js:=[1,2]) (by simp) ad ad ad rfl (by omega) (by omega) (by omega) ⟨by omega,by omega⟩ hGr)
   (lB (lE ad ad (fun _ _ h=>ah.rw h) ad rfl rfl aO hNP (by omega) (by omega) (by omega) (by omega) (by omega) hXr hB1 hBM hY)
   (lB (de [3] (ow (k:=j) (l:=l) (x:=x) (lead:=lead) (fun _ _ h=>ah.rw h) rfl rfl aO hNP (by omega)))
   (lB (de [3] (kw (z:=a) (y:=ae (aR lead l x j)) (Rw.To 2 (Nf (ae (aR lead l x j)) 257) ((aR lead l x j).length) (fun _ _ _ _ h=>af.i h)) (Rw.To 2 (If a ka) la (fun _ _ _ _ h=>h)) (by omega) (by omega) hba hHb (by omega) ha0 hta (fun i hi=>dC hi) hHt hH0 (by simp only [Bool.false_eq_true,false_iff];exact hfj)))
   (lB (jg (k:=j) ad rfl (by omega) (ji (by omega)))
   aw))))))))))))))⟩
   ·have aO:lead % ((prK j:Nat):Int)≠0:=hcj;have eL:=hNe j (by omega) aO;have hGr:=(hGV j (by omega) aO).1;have hLl:=(hGV j (by omega) aO).2;have ht1:=aF (img (prK j) a) la;have ht2:=aF (img (prK j) b) lb;have hs0:=hSl j (by omega);have hs1:=hSl (j+1) (by omega);have hXr:∀i,0<=x j i∧x j i<((prK j:Nat):Int):=fun i=>(by rw [<- hXX j];exact ib (by omega) _ _ i);have hl1:l j≠1:=fun e=>hJn j hj ⟨aO,.inl e⟩;have hNP:¬dg lead l x j:=hdj;have hB1:∀i,Bd ((al lead l x (j+1)).2.2 i).natAbs 257:=(hSB (j+1) (by omega)).1;have hBM:=(hSB (j+1) (by omega)).2;have hS1:(al lead l x (j+1)).1=l j:=jj aO hNP;obtain ⟨hH0,hHt,hHl,hHb⟩:=hH j (by omega) aO hNP;have hY:=ou (Classical.not_not.1 hej);have hda:=Classical.not_not.1 hfj;have hdb:¬d6 (ae (aR lead l x j)) b:=fun h=>hJn j hj ⟨aO,.inr ⟨hNP,Classical.not_not.1 hej,hda,h⟩⟩
    exact ⟨(CE,[.frm 57,.frm 53,.frm 0,.frm 54]),by rw [if_neg hcj,if_neg hdj,if_neg hej,if_neg hfj];rfl,⟨ad,ad,aS,ad,trivial⟩,(lB (ugT ad)
   (lB (d9 (P:=(prK j)) nI ad rfl (by omega) (by omega) (by omega))
   (lB (cY (op:=.eql) ad (bT (beq_eq_false_iff_ne.2 aO) (by simp)))
   (lB (eC (P:=(prK j)) (Rw.To 2 (If a ka) la (fun _ _ _ _ h=>h)) ad rfl (by omega) (by omega) (by omega) (by omega))
   (lB (eC (P:=(prK j)) (Rw.To 2 (If b kb) lb (fun _ _ _ _ h=>h)) ad rfl (by omega) (by omega) (by omega) (by omega))
   (lB (jk (hGG j) (hLL j) ad ad ad rfl (by omega) (by omega) hPp (by omega) (dL (by omega) ha0) (dL (by omega) hb0) eL)
   (cV (cW (e:=103) (sz:=1) (n:=(l j)) (F:=(au .u64 (gg j))) ad rfl)
   (lB (ce (n:=(l j)) Tryz.underlying126 ad rfl)
   (lB (dO ad)
   (lB (jJ (hXX j) (js:=[1,2]) (by simp) ad ad ad rfl (by omega) (by omega) (by omega) ⟨by omega,by omega⟩ hGr)
   (lB (lE ad ad (fun _ _ h=>ah.rw h) ad rfl rfl aO hNP (by omega) (by omega) (by omega) (by omega) (by omega) hXr hB1 hBM hY)
   (lB (de [3] (ow (k:=j) (l:=l) (x:=x) (lead:=lead) (fun _ _ h=>ah.rw h) rfl rfl aO hNP (by omega)))
   (lB (de [3] (kw (z:=a) (y:=ae (aR lead l x j)) (Rw.To 2 (Nf (ae (aR lead l x j)) 257) ((aR lead l x j).length) (fun _ _ _ _ h=>af.i h)) (Rw.To 2 (If a ka) la (fun _ _ _ _ h=>h)) (by omega) (by omega) hba hHb (by omega) ha0 hta (fun i hi=>dC hi) hHt hH0 (by simp only [true_iff];exact hda)))
   (lB (de [3] (kw (z:=b) (y:=ae (aR lead l x j)) (Rw.To 2 (Nf (ae (aR lead l x j)) 257) ((aR lead l x j).length) (fun _ _ _ _ h=>af.i h)) (Rw.To 2 (If b kb) lb (fun _ _ _ _ h=>h)) (by omega) (by omega) hbb hHb (by omega) hb0 htb (fun i hi=>dC hi) hHt hH0 (by simp only [Bool.false_eq_true,false_iff];exact hdb)))
   (lB (jg (k:=j) ad rfl (by omega) (ji (by omega)))
   aw)))))))))))))))⟩
)
   (by
   have hP:=ot (k:=J) (by omega);have hPp:=fq (k:=J) (by omega);have hm0:=Int.emod_nonneg lead (b:=((prK J:Nat):Int)) (by omega);have hm1:=Int.emod_lt_of_pos lead (b:=((prK J:Nat):Int)) (by omega);have aO:lead % ((prK J:Nat):Int)≠0:=hLn;have eL:=hNe J (by omega) aO;have hGr:=(hGV J (by omega) aO).1;have hLl:=(hGV J (by omega) aO).2;have ht1:=aF (img (prK J) a) la;have ht2:=aF (img (prK J) b) lb;have hs0:=hSl J (by omega);have hs1:=hSl (J+1) (Nat.le_refl _)
   exact (lB (ugT ad)
   (lB (d9 (P:=(prK (J))) nI ad rfl (by omega) (by omega) (by omega))
   (lB (cY (op:=.eql) ad (bT (beq_eq_false_iff_ne.2 hLn) (by simp)))
   (lB (eC (P:=(prK (J))) (Rw.To 2 (If a ka) la (fun _ _ _ _ h=>h)) ad rfl (by omega) (by omega) (by omega) (by omega))
   (lB (eC (P:=(prK (J))) (Rw.To 2 (If b kb) lb (fun _ _ _ _ h=>h)) ad rfl (by omega) (by omega) (by omega) (by omega))
   (lB (jk (hGG (J)) (hLL (J)) ad ad ad rfl (by omega) (by omega) hPp (by omega) (dL (by omega) ha0) (dL (by omega) hb0) eL)
   (cV (cW (e:=103) (sz:=1) (n:=(l (J))) (F:=(au .u64 (gg (J)))) ad rfl)
   (lB (ce (n:=(l (J))) Tryz.underlying126 ad rfl)
   (lB (jK ad)
   aw))))))))))
   (fun q hq=>by cases hq)) (ec (ij rfl)
   (lB (qR (a:=1) ad rfl)
   (lB (de [11] (gO (z:=fun _=>1) (n:=1) (zs:=[1]) ad rfl (by omega) (fun _=>⟨by decide,by decide⟩) (by decide)))
   aw)))))))
  (aL [.fact 0 (.one (.s)),.fact 1 (.one (.s))] ⟨Rw.Is 2 (If a ka) la,Rw.Is 2 (If b kb) lb,trivial⟩) bc
theorem PZ {p:Nat}{a:Nat->Int}{la:Nat}{b:Nat->Int}{lb N:Nat} (hp:Prm p) (ha:Vd p a la) (hb:Vd p b lb) (hne:0<la∨0<lb) (h1:la<=N) (h2:lb<=N):gv p a la b lb<=N:=by
 have hJ:=te hp ha hb hne
 unfold gv
 generalize euJ p a la b lb=j at hJ ⊢
 cases j with
 | zero=>exact h1
 | succ j=>
  have h3:=(k7 hp ha hb hne (j:=j) fun k hk=>hJ.2.2 k (by omega)).2.2.1
  show (euS p a la b lb j).2.2<=N
  omega
section
variable {lead:Int}{l:Nat->Nat}{x g:Nat->Nat->Int}{k n N:Nat}
theorem CF (hl:∀k,k<n->lead % ((prK k:Nat):Int)≠0->l k<=N):∀{k:Nat},k<=n->(al lead l x k).1<=N
 | 0,_=>Nat.zero_le _
 | k+1,hk=>by
  have ih:=CF hl (k:=k) (by omega)
  by_cases h1:lead % ((prK k:Nat):Int)=0
  ·rw [qQ h1];exact ih
  ·by_cases h2:dg lead l x k
   ·rw [uM h1 h2];exact ih
   ·rw [jj h1 h2];exact hl k (by omega) h1
theorem uP (hl:∀k,k<n->lead % ((prK k:Nat):Int)≠0->0<l k):∀{k:Nat},k<=n->(al lead l x k).1=0->al lead l x k=(0,0,fun _=>0)
 | 0,_,_=>rfl
 | k+1,hk,h0=>by
  by_cases h1:lead % ((prK k:Nat):Int)=0
  ·rw [qQ h1] at h0 ⊢;exact uP hl (by omega) h0
  ·by_cases h2:dg lead l x k
   ·rw [uM h1 h2] at h0 ⊢;exact uP hl (by omega) h0
   ·rw [jj h1 h2] at h0
    have:=hl k (by omega) h1
    omega
theorem pwS {C k m:Nat} (h:1<C) (hk:k<m):C ^ k<C ^ m:=Nat.pow_lt_pow_right h hk
theorem XH (k:Nat){X:Int} (h:X=0):Bd X.natAbs k:=by subst h;exact XG k
theorem XI (k m:Nat):(∀i,Bd (((0,0,fun _=>0):Nat×Nat×(Nat->Int)).2.2 i).natAbs k)∧Bd ((0,0,fun _=>0):Nat×Nat×(Nat->Int)).2.1 m:=⟨fun i=>XH k rfl,Nat.pow_pos (by omega)⟩
theorem XJ (k:Nat):Bd 0 k:=Nat.pow_pos (by omega)
theorem XK (k:Nat) (h:0<k):Bd 1 k:=Nat.one_lt_pow (by omega) (by omega)
theorem qT {M A B C k a b c:Nat} (h1:2*A+1<=M) (h2:M<=B ^ k) (hk:k<=a) (hB:1<B) (hBC:B<=C) (hab:a<b) (hbc:b<c):A<C ^ b∧M<C ^ c:=by
 have hC:1<C:=by omega
 have h3:B ^ k<=C ^ a:=Nat.le_trans (Nat.pow_le_pow_left hBC k) (Nat.pow_le_pow_right (by omega) hk)
 have h4:C ^ a<C ^ b:=pwS hC hab
 have h5:C ^ b<C ^ c:=pwS hC hbc
 generalize C ^ a=c1 at *
 generalize C ^ b=c2 at *
 generalize C ^ c=c3 at *
 generalize B ^ k=c4 at *
 omega
theorem XF {M A B k a b c:Nat} (h1:2*A+1<=M) (h2:M<=B ^ k) (hk:k<=a) (hB:1<B) (hBC:B<=4294967296) (hab:a<b) (hbc:b<c):Bd A b∧Bd M c:=qT h1 h2 hk hB hBC hab hbc
theorem P0 (hl:∀k,k<n->lead % ((prK k:Nat):Int)≠0->0<l k) (hn:n<=256) (hk:k<=n):(∀i,Bd ((al lead l x k).2.2 i).natAbs 257)∧Bd (al lead l x k).2.1 258:=by
 rcases Nat.eq_zero_or_pos (al lead l x k).1 with h | h
 ·rw [uP hl hk h]
  exact XI 257 258
 ·obtain ⟨-,h2,h3,h4⟩:=tf (by omega) h
  exact ⟨fun i=>(XF (a:=256) (b:=257) (c:=258) (h4 i) h2 (by omega) (by omega) (by omega) (by decide) (by decide)).1,(XF (a:=256) (b:=257) (c:=258) (A:=0) (by omega) h2 (by omega) (by omega) (by omega) (by decide) (by decide)).2⟩
theorem CG (hk:k<256) (h1:lead % ((prK k:Nat):Int)≠0) (h2:¬dg lead l (fun k=>scl (prK k) (lead % ((prK k:Nat):Int)) (g k)) k) (h3:0<l k) (hg1:g k (l k-1)=1) (hB:∀i,Bd ((al lead l (fun k=>scl (prK k) (lead % ((prK k:Nat):Int)) (g k)) (k+1)).2.2 i).natAbs 257) :
  (aR lead l (fun k=>scl (prK k) (lead % ((prK k:Nat):Int)) (g k)) k).length=l k∧tl (ae (aR lead l (fun k=>scl (prK k) (lead % ((prK k:Nat):Int)) (g k)) k)) (l k)=l k∧∀i,Bd (ae (aR lead l (fun k=>scl (prK k) (lead % ((prK k:Nat):Int)) (g k)) k) i).natAbs 257:=by
 have h0:(al lead l (fun k=>scl (prK k) (lead % ((prK k:Nat):Int)) (g k)) (k+1)).2.2 (l k-1)≠0:=fun h0=>by
  have h7:=(yT (lead:=lead) (l:=l) (x:=fun k=>scl (prK k) (lead % ((prK k:Nat):Int)) (g k)) (k:=k) (i:=l k-1) hk h1 h2 (by omega) (by omega)).2
  have h8:scl (prK k) (lead % ((prK k:Nat):Int)) (g k) (l k-1)=lead % ((prK k:Nat):Int):=by
   unfold scl
   rw [hg1,Int.one_mul,Int.emod_emod_of_dvd _ (Int.dvd_refl _)]
  rw [h0,h8,Int.zero_sub,Int.dvd_neg] at h7
  refine h1 ?_
  rw [<- Int.emod_emod_of_dvd lead (Int.dvd_refl ((prK k:Nat):Int))]
  exact Int.emod_eq_zero_of_dvd h7
 unfold aR
 generalize (al lead l (fun k=>scl (prK k) (lead % ((prK k:Nat):Int)) (g k)) (k+1)).2.2=z at *
 have ht:tl z (l k)=l k:=iO fun _=>h0
 have hl:=(p7 (z:=z) (n:=l k) (by omega)).1
 rw [ht] at hl
 refine ⟨by rw [dvL,iG,ht],iO fun _=>by omega,fun i=>?_⟩
 rw [dvL,fl]
 split
 ·exact (hB i).le (Int.natAbs_ediv_le_natAbs _ _)
 ·exact XJ 257
end
section
variable {Φ:PH}{p q xx:Nat}
theorem P1 {a b G:Nat->Int}{la lb ka kb K u v d:Nat} (hp:∀w v,Φ p w v->Rw 2 (If a ka) la w v) (hq:∀w v,Φ q w v->Rw 2 (If b kb) lb w v) (hx:Φ xx=Rw 2 (Nf G 257) (d+1))
  (hs:Vz (a,la)) (ht:Vz (b,lb)) (lF:0<la) (ks:0<lb) (hla:la<=1000) (hlb:lb<=1000) (hka:ka<=100) (hkb:kb<=100) (hsz:(la+lb+1)*258<=80000) (hba:∀i,Bd (a i).natAbs ka) (hbb:∀i,Bd (b i).natAbs kb)
  (hG:(gcS (a,la) (b,lb) (eG (a,la) (b,lb))).1.1=G) (hd:(gcS (a,la) (b,lb) (eG (a,la) (b,lb))).1.2=d+1) (hA:∀i,(a i).natAbs<=K) (hB:∀i,(b i).natAbs<=K) (hKu:K+(2*(la+lb)*K) ^ (la+lb)<2147000000 ^ (u+1)) (hKv:2*(K*(K+(2*(la+lb)*K) ^ (la+lb)))+1<=2147000000 ^ v) (hv:0<v) (huv:v+u+v<256) :
  ai Φ Tryz.prog ⟨87,[.fact p,.fact q],[oS xx],false⟩:=by
 let l:Nat->Nat:=fun k=>gv (prK k) (img (prK k) a) (tl (img (prK k) a) la) (img (prK k) b) (tl (img (prK k) b) lb)
 let g:Nat->Nat->Int:=fun k=>imG (prK k) (img (prK k) a) (tl (img (prK k) a) la) (img (prK k) b) (tl (img (prK k) b) lb)
 obtain ⟨lead,hlead⟩:∃lead:Int,lead=((Nat.gcd (a (la-1)).natAbs (b (lb-1)).natAbs:Nat):Int):=⟨_,rfl⟩
 obtain ⟨H,c0,hc,hle,hall,k,hk,h1,h2,h3,h4,h5⟩:=Jj hs ht lF ks hG hd hA hB hKu hKv hv huv l g (fun _=>rfl) (fun _=>rfl) lead hlead
 obtain ⟨J,hJk,hE,hJn⟩:=Jl H hc h1 h2 h3 h4 h5
 have hlp:∀k,k<256->lead % ((prK k:Nat):Int)≠0->0<l k:=fun k hk hp=>by have:=(hall k hk hp).1;omega
 have hap:=(hs.2 lF).1
 have hbp:=(ht.2 ks).1
 have hne:∀k,lead % ((prK k:Nat):Int)≠0->0<tl (img (prK k) a) la∨0<tl (img (prK k) b) lb:=fun k hp=>by
  by_cases e1:((prK k:Nat):Int)∣a (la-1)
  ·by_cases e2:((prK k:Nat):Int)∣b (lb-1)
   ·refine absurd (Int.emod_eq_zero_of_dvd ?_) hp
    rw [hlead]
    exact Int.natCast_dvd_natCast.2 (Nat.dvd_gcd (Int.ofNat_dvd_left.1 e1) (Int.ofNat_dvd_left.1 e2))
   ·have:=p5 e2
    rw [Nat.sub_add_cancel ks] at this
    omega
  ·have:=p5 e1
   rw [Nat.sub_add_cancel lF] at this
   omega
 have hl1:∀k,k<256->lead % ((prK k:Nat):Int)≠0->l k<=1000:=fun k hk hp=>by
  have hr:=ot hk
  refine PZ (fq hk) (dL (by omega) hs.1) (dL (by omega) ht.1) (hne k hp) ?_ ?_
  ·exact Nat.le_trans (aF _ _) hla
  ·exact Nat.le_trans (aF _ _) hlb
 have hSB:∀k,k<=256->(∀i,Bd ((al lead l (fun k=>scl (prK k) (lead % ((prK k:Nat):Int)) (g k)) k).2.2 i).natAbs 257)∧Bd (al lead l (fun k=>scl (prK k) (lead % ((prK k:Nat):Int)) (g k)) k).2.1 258:=fun k hk=>P0 hlp (Nat.le_refl _) hk
 have hSl:∀k,k<=256->(al lead l (fun k=>scl (prK k) (lead % ((prK k:Nat):Int)) (g k)) k).1<=1000:=fun k hk=>CF hl1 hk
 have hH:∀k,k<=J->lead % ((prK k:Nat):Int)≠0->¬dg lead l (fun k=>scl (prK k) (lead % ((prK k:Nat):Int)) (g k)) k->0<(aR lead l (fun k=>scl (prK k) (lead % ((prK k:Nat):Int)) (g k)) k).length∧tl (ae (aR lead l (fun k=>scl (prK k) (lead % ((prK k:Nat):Int)) (g k)) k)) (aR lead l (fun k=>scl (prK k) (lead % ((prK k:Nat):Int)) (g k)) k).length=(aR lead l (fun k=>scl (prK k) (lead % ((prK k:Nat):Int)) (g k)) k).length∧(aR lead l (fun k=>scl (prK k) (lead % ((prK k:Nat):Int)) (g k)) k).length<=1000∧∀i,Bd (ae (aR lead l (fun k=>scl (prK k) (lead % ((prK k:Nat):Int)) (g k)) k) i).natAbs 257:=fun k hk hp hP=>by
  obtain ⟨e1,e2,e3⟩:=CG (l:=l) (g:=g) (by omega) hp hP (hlp k (by omega) hp) (hall k (by omega) hp).2.2 (hSB (k+1) (by omega)).1
  rw [e1]
  exact ⟨hlp k (by omega) hp,e2,hl1 k (by omega) hp,e3⟩
 have hR:=Jk (g:=g) H (by omega) (hall J (by omega) hE.1).1 (hall J (by omega) hE.1).2.2 hE
 by_cases e:l J=1
 ·have hd0:d=0:=by have:=(hall J (by omega) hE.1).1;omega
  subst hd0
  refine aW (ZP (a:=a) (b:=b) (ka:=ka) (kb:=kb) (J:=J) (lead:=lead) (l:=l) (gg:=g) (x:=fun k=>scl (prK k) (lead % ((prK k:Nat):Int)) (g k)) hla hlb lF ks hka hkb hs.1 ht.1 (iO fun _=>by dsimp only at hap;omega) (iO fun _=>by dsimp only at hbp;omega) hba hbb hsz hlead.symm (by omega) hJn (fun _=>rfl) (fun _=>rfl) (fun _=>rfl) (fun k _ hp=>hne k hp) (fun k hk hp=>⟨(hall k (by omega) hp).2.1.1,hlp k (by omega) hp,hl1 k (by omega) hp⟩) (fun k hk=>hSB k (by omega)) (fun k hk=>hSl k (by omega)) hH hE.1 e)
   ⟨hp,hq,trivial⟩ ⟨⟨rfl,⟨rfl,rfl,fun w v h=>?_⟩,trivial⟩,trivial⟩
  have h':Rw 2 (Nf (ae [1]) 2) 1 w v:=h
  rw [hx]
  refine h'.to fun i w v hi h=>?_
  show af w v (G i) 257
  have:=hR.1 e i
  obtain rfl:i=0:=by omega
  rw [this]
  exact af.re h (XK 257 (by omega))
 ·obtain ⟨h6,h7,h8,h9⟩:=hE.2.resolve_left e
  have hR2:=hR.2 e
  refine aW (PS (a:=a) (b:=b) (ka:=ka) (kb:=kb) (J:=J) (lead:=lead) (l:=l) (gg:=g) (x:=fun k=>scl (prK k) (lead % ((prK k:Nat):Int)) (g k)) hla hlb lF ks hka hkb hs.1 ht.1 (iO fun _=>by dsimp only at hap;omega) (iO fun _=>by dsimp only at hbp;omega) hba hbb hsz hlead.symm (by omega) hJn (fun _=>rfl) (fun _=>rfl) (fun _=>rfl) (fun k _ hp=>hne k hp) (fun k hk hp=>⟨(hall k (by omega) hp).2.1.1,hlp k (by omega) hp,hl1 k (by omega) hp⟩) (fun k hk=>hSB k (by omega)) (fun k hk=>hSl k (by omega)) hH hE.1 e h6 h7 h8 h9)
   ⟨hp,hq,trivial⟩ ⟨⟨rfl,⟨rfl,rfl,fun w v h=>?_⟩,trivial⟩,trivial⟩
  have h':Rw 2 (Nf (ae (aR lead l (fun k=>scl (prK k) (lead % ((prK k:Nat):Int)) (g k)) J)) 257) (aR lead l (fun k=>scl (prK k) (lead % ((prK k:Nat):Int)) (g k)) J).length w v:=h
  rw [(CG (l:=l) (g:=g) (by omega) hE.1 h6 (hlp J (by omega) hE.1) (hall J (by omega) hE.1).2.2 (hSB (J+1) (by omega)).1).1,hR2.1] at h'
  rw [hx]
  refine h'.to fun i w v hi h=>?_
  show af w v (G i) 257
  rw [<- hR2.2 i]
  exact h
end
end Go.Proofs.YtbokonbbokhjlaaGreat.Sym
