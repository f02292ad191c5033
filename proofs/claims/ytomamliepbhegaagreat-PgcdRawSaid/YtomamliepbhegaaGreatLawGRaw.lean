/- PgcdRaw holds: for every three polynomials the law returns true. No condition. -/

import Derived.Test.YtomamliepbhegaaGreatModU
import Derived.Test.YtomamliepbhegaaGreatRGcB
import Derived.Test.YtomamliepbhegaaGreatRMulI
import Derived.Test.YtomamliepbhegaaGreatPolQ
set_option maxRecDepth 100000
namespace Go.Proofs.YtomamliepbhegaaGreat.graw
open Go.Proofs.Tryz
open Go.ChangeShapes Go.WideShapes Go.ChangeAt Go.RowKit
open Go.Proofs.YtomamliepbhegaaGreat.Sym hiding val run start
variable {Na Nb Nc ma mb mc n:Nat}{aa ab ac:Nat->Bool}{xsa xsb xsc:Nat->List Nat}{cN cO cf:Nat->Int}{PX PY:List Int}
theorem sN {s t:(Nat->Int)×Nat} (hs:Vz s) (ht:Vz t):cmn s t=bL s t:=Prod.ext (funext fun i=>(CK hs ht).2 i) (CK hs ht).1
theorem lS (L:List Int):tl (ae (aG L)) (aG L).length=(aG L).length:=by
 have h:=DO (DQ L)
 have h2:=congrArg List.length h
 rw [qg] at h2
 exact h2
theorem DR {L:List Int} (h:mO L):tl (ae L) L.length=L.length:=by
 have h2:=congrArg List.length (DO h)
 rw [qg] at h2
 exact h2
theorem ww {k:Nat}{f:Nat->Int} (h:∀i,i<n->Bd (f i).natAbs k) (i:Nat):Bd (ae (aG (mk n f)) i).natAbs k:=by
 rw [mz,eG]
 split
 ·exact h i (by assumption)
 ·exact mw k
theorem DS {z y:Nat->Int}{l A B:Nat} (hz:∀i,(z i).natAbs<=A) (hy:∀i,(y i).natAbs<=B):∀j p,(eS z y l j p).natAbs<=j*(A*B)
 | 0,_=>Nat.zero_le _
 | j+1,p=>by
  rw [eS,Nat.succ_mul]
  refine Nat.le_trans (Int.natAbs_add_le _ _) (Nat.add_le_add (DS hz hy j p) ?_)
  split
  ·rw [Int.natAbs_mul];exact Nat.mul_le_mul (hz _) (hy _)
  ·exact Nat.zero_le _
theorem DT {z y:Nat->Int}{m:Nat} (hn:n<=4) (hz:∀i,Bd (z i).natAbs 1) (hy:∀i,Bd (y i).natAbs 1) (i:Nat):Bd (ae (mulL z n y m) i).natAbs 3:=by
 unfold mulL
 split
 ·rw [ep (by simp)];exact mw 3
 ·rw [eG]
  split
  ·refine Nat.lt_of_le_of_lt (DS (A:=4294967296) (B:=4294967296) (fun i=>Nat.le_of_lt (hz i)) (fun i=>Nat.le_of_lt (hy i)) _ _) ?_
   have:=aL z n
   exact Nat.lt_of_le_of_lt (Nat.mul_le_mul_right _ (show tl z n<=4 by omega)) (by decide)
  ·exact mw 3
section
variable {s t:(Nat->Int)×Nat}{K:Nat}
theorem Rc (hs:Vz s) (ht:Vz t) (hA:∀i,(s.1 i).natAbs<=K) (hB:∀i,(t.1 i).natAbs<=K) (i:Nat):((bL s t).1 i).natAbs<=K+(2*(s.2+t.2)*K) ^ (s.2+t.2):=by
 rcases Nat.eq_zero_or_pos t.2 with h | h
 ·rw [vV hs ht h];exact Nat.le_trans (hA i) (Nat.le_add_right _ _)
 ·rcases Nat.eq_zero_or_pos s.2 with h' | h'
  ·rw [CJ hs ht h' h];exact Nat.le_trans (hB i) (Nat.le_add_right _ _)
  ·exact CI (sq hs ht h).2 hs ht h' h hA hB i
theorem Rd (hs:Vz s) (ht:Vz t) (h6:s.2<=6) (h6':t.2<=6) (hA:∀i,Bd (s.1 i).natAbs 3) (hB:∀i,Bd (t.1 i).natAbs 3):gi s t 60 7∧∀i,Bd ((bL s t).1 i).natAbs 60:=by
 have hW:(2*(s.2+t.2)*4294967296 ^ 3) ^ (s.2+t.2)<=(24*4294967296 ^ 3) ^ 12:=
  Nat.le_trans (Nat.pow_le_pow_left (Nat.mul_le_mul_right _ (show 2*(s.2+t.2)<=24 by omega)) _) (Nat.pow_le_pow_right (by decide) (by omega))
 have h1:∀i,(s.1 i).natAbs<=4294967296 ^ 3:=fun i=>Nat.le_of_lt (hA i)
 have h2:∀i,(t.1 i).natAbs<=4294967296 ^ 3:=fun i=>Nat.le_of_lt (hB i)
 refine ⟨⟨by omega,by omega,fun _ _=>⟨by omega,by omega,by omega,fun i=>(hA i).more (by omega),fun i=>(hB i).more (by omega),4294967296 ^ 3,40,43,h1,h2,?_,?_,by omega,by omega⟩⟩,fun i=>Nat.lt_of_le_of_lt (Rc hs ht h1 h2 i) ?_⟩
 ·exact Nat.lt_of_le_of_lt (Nat.add_le_add_left hW _) (by decide +kernel)
 ·exact Nat.le_trans (Nat.add_le_add_right (Nat.mul_le_mul_left 2 (Nat.mul_le_mul_left _ (Nat.add_le_add_left hW _))) 1) (by decide +kernel)
 ·exact Nat.lt_of_le_of_lt (Nat.add_le_add_left hW _) (by decide +kernel)
end
section
variable {Φ:PH}{p q la lb ka kb k2 k:Nat}{a b:Nat->Int}
theorem Re (hp:∀w v,Φ p w v->Rw 2 (If a 7) la w v) (hq:∀w v,Φ q w v->Rw 2 (If b 7) lb w v) (hB:∀i,Bd ((pri a la).1 i).natAbs 60) (hG:∀i,Bd ((bL (pri a la) (pri b lb)).1 i).natAbs 60) (hC:gi (pri a la) (pri b lb) 60 7) (hr:(bL (pri a la) (pri b lb)).2=1) (hla:la<=1000:=by omega) (hlb:lb<=1000:=by omega) (hl:(bL (pri a la) (pri b lb)).2<=1000:=by omega) :
  aj Φ prog ⟨12,[.fact p,.fact q],oT,false⟩:=by
 rw [<- sN (cI _ _) (cI _ _)] at hG hl hr
 exact aW (Rf (k:=7) hla hlb (Nat.le_refl _) (Nat.le_refl _) hB hG hC hl hr) ⟨hp,hq,trivial⟩ ⟨⟨rfl,trivial⟩,trivial⟩
theorem Rg (hp:∀w v,Φ p w v->Rw 2 (If a 7) la w v) (hq:∀w v,Φ q w v->Rw 2 (If b 7) lb w v) (hB:∀i,Bd ((pri a la).1 i).natAbs 60) (hG:∀i,Bd ((bL (pri a la) (pri b lb)).1 i).natAbs 60) (hC:gi (pri a la) (pri b lb) 60 7) (hr:(bL (pri a la) (pri b lb)).2≠1) (hla:la<=1000:=by omega) (hlb:lb<=1000:=by omega) (hl:(bL (pri a la) (pri b lb)).2<=1000:=by omega) :
  aj Φ prog ⟨12,[.fact p,.fact q],oF,false⟩:=by
 rw [<- sN (cI _ _) (cI _ _)] at hG hl hr
 exact aW (Rh (k:=7) hla hlb (Nat.le_refl _) (Nat.le_refl _) hB hG hC hl hr) ⟨hp,hq,trivial⟩ ⟨⟨rfl,trivial⟩,trivial⟩
end
def Ri (aa ab ac:Nat->Bool) (xsa xsb xsc:Nat->List Nat) (cN cO cf:Nat->Int) (ma mb mc Na Nb Nc:Nat) (PX PY:List Int):List WP:=[fun w v=>Rw 2 (fun ι w v=>aT w v (aa ι) (xsa ι)) ma w v,fun w v=>Rw 2 (fun ι w v=>aT w v (ab ι) (xsb ι)) mb w v,fun w v=>Rw 2 (fun ι w v=>aT w v (ac ι) (xsc ι)) mc w v,Ni 4,Ni 1,fun w v=>Rw 2 (fun ι w v=>KI w v (aa ι) ((fun ι=>(xsa ι).take 1) ι) (cN ι) 1) Na w v,fun w v=>Rw 4 (fun ι w v=>al w v ((((ae (aG (mk Na cN))) ι:Int):Rat)) (1+2+2)) ((aG (mk Na cN)).length) w v,fun w v=>Rw 2 (fun ι w v=>KI w v (ab ι) ((fun ι=>(xsb ι).take 1) ι) (cO ι) 1) Nb w v,fun w v=>Rw 4 (fun ι w v=>al w v ((((ae (aG (mk Nb cO))) ι:Int):Rat)) (1+2+2)) ((aG (mk Nb cO)).length) w v,Ni 3,fun w v=>Rw 2 (fun ι w v=>KI w v (ac ι) ((fun ι=>(xsc ι).take 1) ι) (cf ι) 1) Nc w v,fun w v=>Rw 4 (fun ι w v=>al w v ((((ae (aG (mk Nc cf))) ι:Int):Rat)) (1+2+2)) ((aG (mk Nc cf)).length) w v,fun w v=>Rw 4 (fun ι w v=>al w v ((((ae PX) ι:Int):Rat)) 7) PX.length w v,fun w v=>Rw 4 (fun ι w v=>al w v ((((ae PY) ι:Int):Rat)) 7) PY.length w v,fun w v=>Rw 4 (fun ι w v=>al w v ((((bL (pri (ae PX) PX.length) (pri (ae PY) PY.length)).1 ι:Int):Rat)) 3000) ((bL (pri (ae PX) PX.length) (pri (ae PY) PY.length)).2) w v,Rw 2 (Nf (ae PX) 7) PX.length,Rw 2 (Nf (ae PY) 7) PY.length,Rw 1 (bS (fI (ae PX) (ae PY) (ae PY)) (fI PX.length PY.length PY.length) 7) 2,Rw 2 (Nf ((bL (pri (ae PX) PX.length) (pri (ae PY) PY.length)).1) 60) ((bL (pri (ae PX) PX.length) (pri (ae PY) PY.length)).2),Rw 2 (Nf (ae PX) 7) PX.length,Rw 2 (Nf (ae PY) 7) PY.length,Ni (((bL (pri (ae PX) PX.length) (pri (ae PY) PY.length)).2:Nat):Int)]
def Rj:List Step:=[.derive (.one (.ci .i64 4)) (.one (.lit (.ci .i64 4))) [] 3,.derive (.one (.ci .i64 1)) (.one (.lit (.ci .i64 1))) [] 4,.derive (.one (.ci .i64 3)) (.one (.lit (.ci .i64 3))) [] 9,.base ⟨16,[0,3,4],[oS 5],false⟩,.base ⟨15,[5],[oS 6],false⟩,.base ⟨16,[1,3,4],[oS 7],false⟩,.base ⟨15,[7],[oS 8],false⟩,.base ⟨16,[2,9,4],[oS 10],false⟩,.base ⟨15,[10],[oS 11],false⟩,.base ⟨7,[6,11],[oS 12],false⟩,.base ⟨7,[8,11],[oS 13],false⟩,.base ⟨9,[12,13],[oS 14],false⟩,.base ⟨8,[12],[oS 15],false⟩,.base ⟨8,[13],[oS 16],false⟩,.base ⟨0,[.any,15,16],[oS 17],.fresh [] (dq 59 2)⟩,.base ⟨11,[17],[oS 18],false⟩,.base ⟨10,[14,18],oT,false⟩,.base ⟨8,[12],[oS 19],false⟩,.base ⟨8,[13],[oS 20],false⟩,.base ⟨12,[19,20],oT,false⟩,bQ [14] [oN 21] (aC 24),bQ [21,.lit (.ci .i64 1)] oT (ak .eql),.base ⟨14,[],oT,false⟩]
def Rk:List Out:=[oS 0,oS 1,oS 2]
set_option maxHeartbeats 1000000 in
theorem Rm  (hna:ma<=9223372036854775807) (hza:∀j,sg (aa j) (Proofs.YtomamliepbhegaaGreat.val 4294967296 ((xsa j).take 1))=cN j) (ol:min ma 4=Na) (hnb:mb<=9223372036854775807) (hzb:∀j,sg (ab j) (Proofs.YtomamliepbhegaaGreat.val 4294967296 ((xsb j).take 1))=cO j) (om:min mb 4=Nb) (hnc:mc<=9223372036854775807) (hzc:∀j,sg (ac j) (Proofs.YtomamliepbhegaaGreat.val 4294967296 ((xsc j).take 1))=cf j) (oo:min mc 3=Nc) (hPX:mulL (ae (aG (mk Na cN))) (aG (mk Na cN)).length (ae (aG (mk Nc cf))) (aG (mk Nc cf)).length=PX) (hPY:mulL (ae (aG (mk Nb cO))) (aG (mk Nb cO)).length (ae (aG (mk Nc cf))) (aG (mk Nc cf)).length=PY) (hlX:PX.length<=6) (hlY:PY.length<=6) (htX:tl (ae PX) PX.length=PX.length) (htY:tl (ae PY) PY.length=PY.length) (hba:∀i,Bd (ae (aG (mk Na cN)) i).natAbs 1) (hbb:∀i,Bd (ae (aG (mk Nb cO)) i).natAbs 1) (hbc:∀i,Bd (ae (aG (mk Nc cf)) i).natAbs 1) (hbX:∀i,Bd (ae PX i).natAbs 3) (hbY:∀i,Bd (ae PY i).natAbs 3) (hbP:∀i,Bd ((pri (ae PX) PX.length).1 i).natAbs 3) (hC:gi (pri (ae PX) PX.length) (pri (ae PY) PY.length) 60 7∧∀i,Bd ((bL (pri (ae PX) PX.length) (pri (ae PY) PY.length)).1 i).natAbs 60) (hGl:(bL (pri (ae PX) PX.length) (pri (ae PY) PY.length)).2<=1000) (hr:(bL (pri (ae PX) PX.length) (pri (ae PY) PY.length)).2=1) (hlA:(aG (mk Na cN)).length<=4:=by omega) (hlB:(aG (mk Nb cO)).length<=4:=by omega) (hlC:(aG (mk Nc cf)).length<=3:=by omega):aj (ph (Ri aa ab ac xsa xsb xsc cN cO cf ma mb mc Na Nb Nc PX PY)) prog ⟨4,[0,1,2],oT,false⟩:=aV Rk oT Rj func4 (by kernel_rfl) (ej (gE rfl) (ej (gE rfl) (ej (gE rfl) (lB (ot 4 1 ad ad ad rfl hza ol) (lB (ou (z:=cN) (n:=Na) (L:=(aG (mk Na cN))) (Rw.To 2 (fun ι w v=>KI w v (aa ι) ((fun ι=>(xsa ι).take 1) ι) (cN ι) 1) Na (fun _ _ _ _ h=>And.right h)) rfl rfl) (lB (ot 4 1 ad ad ad rfl hzb om) (lB (ou (z:=cO) (n:=Nb) (L:=(aG (mk Nb cO))) (Rw.To 2 (fun ι w v=>KI w v (ab ι) ((fun ι=>(xsb ι).take 1) ι) (cO ι) 1) Nb (fun _ _ _ _ h=>And.right h)) rfl rfl) (lB (ot 3 1 ad ad ad rfl hzc oo) (lB (ou (z:=cf) (n:=Nc) (L:=(aG (mk Nc cf))) (Rw.To 2 (fun ι w v=>KI w v (ac ι) ((fun ι=>(xsc ι).take 1) ι) (cf ι) 1) Nc (fun _ _ _ _ h=>And.right h)) rfl rfl) (lB (sO (z:=ae (aG (mk Na cN))) (n:=(aG (mk Na cN)).length) (y:=ae (aG (mk Nc cf))) (m:=(aG (mk Nc cf)).length) (P:=PX) (kz:=1) (ky:=1) ad ad rfl (lS _) (lS _) (fun i _=>hba i) (fun i _=>hbc i) hPX) (lB (sO (z:=ae (aG (mk Nb cO))) (n:=(aG (mk Nb cO)).length) (y:=ae (aG (mk Nc cf))) (m:=(aG (mk Nc cf)).length) (P:=PY) (kz:=1) (ky:=1) ad ad rfl (lS _) (lS _) (fun i _=>hbb i) (fun i _=>hbc i) hPY) (lB (DU (z:=ae PX) (n:=PX.length) (y:=ae PY) (m:=PY.length) ad ad rfl htX htY hbX hbY) (lB (lG (z:=ae PX) (n:=PX.length) ad rfl) (lB (lG (z:=ae PY) (n:=PY.length) ad rfl) (lB (ow (fun w v h=>iL ((Rw.To 2 (Nf (ae PX) 7) PX.length (fun _ _ _ _ h=>ai.i h)) w v h)) (fun w v h=>iL ((Rw.To 2 (Nf (ae PY) 7) PY.length (fun _ _ _ _ h=>ai.i h)) w v h)) rfl) (lB (sP (c:=(bL (pri (ae PX) PX.length) (pri (ae PY) PY.length))) (k2:=60) ad rfl (fun i=>(hbP i).more (by omega)) hC.2 hC.1 (sN (cI _ _) (cI _ _))) (lB (sQ (z:=(bL (pri (ae PX) PX.length) (pri (ae PY) PY.length)).1) (n:=(bL (pri (ae PX) PX.length) (pri (ae PY) PY.length)).2) (k:=60) (kq:=3000) ad ad) (lB (lG (z:=ae PX) (n:=PX.length) ad rfl) (lB (lG (z:=ae PY) (n:=PY.length) ad rfl) (lB (Re (a:=ae PX) (la:=PX.length) (b:=ae PY) (lb:=PY.length) (Rw.To 2 (Nf (ae PX) 7) PX.length (fun _ _ _ _ h=>ai.i h)) (Rw.To 2 (Nf (ae PY) 7) PY.length (fun _ _ _ _ h=>ai.i h)) (fun i=>(hbP i).more (by omega)) hC.2 hC.1 hr) (lB (aJ (F:=(fun ι w v=>al w v ((((bL (pri (ae PX) PX.length) (pri (ae PY) PY.length)).1 ι:Int):Rat)) 3000)) underlying24 ad rfl) (lB (ic ad) (lB (DV) au)))))))))))))))))))))))
  (aK [.fact 0 (.one (.s)),.fact 1 (.one (.s)),.fact 2 (.one (.s))] ⟨Rw.Is 2 (fun ι w v=>aT w v (aa ι) (xsa ι)) ma,Rw.Is 2 (fun ι w v=>aT w v (ab ι) (xsb ι)) mb,Rw.Is 2 (fun ι w v=>aT w v (ac ι) (xsc ι)) mc,trivial⟩) bg
def Rp:List Step:=[.derive (.one (.ci .i64 4)) (.one (.lit (.ci .i64 4))) [] 3,.derive (.one (.ci .i64 1)) (.one (.lit (.ci .i64 1))) [] 4,.derive (.one (.ci .i64 3)) (.one (.lit (.ci .i64 3))) [] 9,.base ⟨16,[0,3,4],[oS 5],false⟩,.base ⟨15,[5],[oS 6],false⟩,.base ⟨16,[1,3,4],[oS 7],false⟩,.base ⟨15,[7],[oS 8],false⟩,.base ⟨16,[2,9,4],[oS 10],false⟩,.base ⟨15,[10],[oS 11],false⟩,.base ⟨7,[6,11],[oS 12],false⟩,.base ⟨7,[8,11],[oS 13],false⟩,.base ⟨9,[12,13],[oS 14],false⟩,.base ⟨8,[12],[oS 15],false⟩,.base ⟨8,[13],[oS 16],false⟩,.base ⟨0,[.any,15,16],[oS 17],.fresh [] (dq 59 2)⟩,.base ⟨11,[17],[oS 18],false⟩,.base ⟨10,[14,18],oT,false⟩,.base ⟨8,[12],[oS 19],false⟩,.base ⟨8,[13],[oS 20],false⟩,.base ⟨12,[19,20],oF,false⟩,bQ [14] [oN 21] (aC 24),bQ [21,.lit (.ci .i64 1)] oF (ak .eql),.base ⟨14,[],oT,false⟩]
set_option maxHeartbeats 1000000 in
theorem Ru  (hna:ma<=9223372036854775807) (hza:∀j,sg (aa j) (Proofs.YtomamliepbhegaaGreat.val 4294967296 ((xsa j).take 1))=cN j) (ol:min ma 4=Na) (hnb:mb<=9223372036854775807) (hzb:∀j,sg (ab j) (Proofs.YtomamliepbhegaaGreat.val 4294967296 ((xsb j).take 1))=cO j) (om:min mb 4=Nb) (hnc:mc<=9223372036854775807) (hzc:∀j,sg (ac j) (Proofs.YtomamliepbhegaaGreat.val 4294967296 ((xsc j).take 1))=cf j) (oo:min mc 3=Nc) (hPX:mulL (ae (aG (mk Na cN))) (aG (mk Na cN)).length (ae (aG (mk Nc cf))) (aG (mk Nc cf)).length=PX) (hPY:mulL (ae (aG (mk Nb cO))) (aG (mk Nb cO)).length (ae (aG (mk Nc cf))) (aG (mk Nc cf)).length=PY) (hlX:PX.length<=6) (hlY:PY.length<=6) (htX:tl (ae PX) PX.length=PX.length) (htY:tl (ae PY) PY.length=PY.length) (hba:∀i,Bd (ae (aG (mk Na cN)) i).natAbs 1) (hbb:∀i,Bd (ae (aG (mk Nb cO)) i).natAbs 1) (hbc:∀i,Bd (ae (aG (mk Nc cf)) i).natAbs 1) (hbX:∀i,Bd (ae PX i).natAbs 3) (hbY:∀i,Bd (ae PY i).natAbs 3) (hbP:∀i,Bd ((pri (ae PX) PX.length).1 i).natAbs 3) (hC:gi (pri (ae PX) PX.length) (pri (ae PY) PY.length) 60 7∧∀i,Bd ((bL (pri (ae PX) PX.length) (pri (ae PY) PY.length)).1 i).natAbs 60) (hGl:(bL (pri (ae PX) PX.length) (pri (ae PY) PY.length)).2<=1000) (hr:(bL (pri (ae PX) PX.length) (pri (ae PY) PY.length)).2≠1) (hlA:(aG (mk Na cN)).length<=4:=by omega) (hlB:(aG (mk Nb cO)).length<=4:=by omega) (hlC:(aG (mk Nc cf)).length<=3:=by omega):aj (ph (Ri aa ab ac xsa xsb xsc cN cO cf ma mb mc Na Nb Nc PX PY)) prog ⟨4,[0,1,2],oT,false⟩:=aV Rk oT Rp func4 (by kernel_rfl) (ej (gE rfl) (ej (gE rfl) (ej (gE rfl) (lB (ot 4 1 ad ad ad rfl hza ol) (lB (ou (z:=cN) (n:=Na) (L:=(aG (mk Na cN))) (Rw.To 2 (fun ι w v=>KI w v (aa ι) ((fun ι=>(xsa ι).take 1) ι) (cN ι) 1) Na (fun _ _ _ _ h=>And.right h)) rfl rfl) (lB (ot 4 1 ad ad ad rfl hzb om) (lB (ou (z:=cO) (n:=Nb) (L:=(aG (mk Nb cO))) (Rw.To 2 (fun ι w v=>KI w v (ab ι) ((fun ι=>(xsb ι).take 1) ι) (cO ι) 1) Nb (fun _ _ _ _ h=>And.right h)) rfl rfl) (lB (ot 3 1 ad ad ad rfl hzc oo) (lB (ou (z:=cf) (n:=Nc) (L:=(aG (mk Nc cf))) (Rw.To 2 (fun ι w v=>KI w v (ac ι) ((fun ι=>(xsc ι).take 1) ι) (cf ι) 1) Nc (fun _ _ _ _ h=>And.right h)) rfl rfl) (lB (sO (z:=ae (aG (mk Na cN))) (n:=(aG (mk Na cN)).length) (y:=ae (aG (mk Nc cf))) (m:=(aG (mk Nc cf)).length) (P:=PX) (kz:=1) (ky:=1) ad ad rfl (lS _) (lS _) (fun i _=>hba i) (fun i _=>hbc i) hPX) (lB (sO (z:=ae (aG (mk Nb cO))) (n:=(aG (mk Nb cO)).length) (y:=ae (aG (mk Nc cf))) (m:=(aG (mk Nc cf)).length) (P:=PY) (kz:=1) (ky:=1) ad ad rfl (lS _) (lS _) (fun i _=>hbb i) (fun i _=>hbc i) hPY) (lB (DU (z:=ae PX) (n:=PX.length) (y:=ae PY) (m:=PY.length) ad ad rfl htX htY hbX hbY) (lB (lG (z:=ae PX) (n:=PX.length) ad rfl) (lB (lG (z:=ae PY) (n:=PY.length) ad rfl) (lB (ow (fun w v h=>iL ((Rw.To 2 (Nf (ae PX) 7) PX.length (fun _ _ _ _ h=>ai.i h)) w v h)) (fun w v h=>iL ((Rw.To 2 (Nf (ae PY) 7) PY.length (fun _ _ _ _ h=>ai.i h)) w v h)) rfl) (lB (sP (c:=(bL (pri (ae PX) PX.length) (pri (ae PY) PY.length))) (k2:=60) ad rfl (fun i=>(hbP i).more (by omega)) hC.2 hC.1 (sN (cI _ _) (cI _ _))) (lB (sQ (z:=(bL (pri (ae PX) PX.length) (pri (ae PY) PY.length)).1) (n:=(bL (pri (ae PX) PX.length) (pri (ae PY) PY.length)).2) (k:=60) (kq:=3000) ad ad) (lB (lG (z:=ae PX) (n:=PX.length) ad rfl) (lB (lG (z:=ae PY) (n:=PY.length) ad rfl) (lB (Rg (a:=ae PX) (la:=PX.length) (b:=ae PY) (lb:=PY.length) (Rw.To 2 (Nf (ae PX) 7) PX.length (fun _ _ _ _ h=>ai.i h)) (Rw.To 2 (Nf (ae PY) 7) PY.length (fun _ _ _ _ h=>ai.i h)) (fun i=>(hbP i).more (by omega)) hC.2 hC.1 hr) (lB (aJ (F:=(fun ι w v=>al w v ((((bL (pri (ae PX) PX.length) (pri (ae PY) PY.length)).1 ι:Int):Rat)) 3000)) underlying24 ad rfl) (lB (dg ad) (lB (DV) au)))))))))))))))))))))))
  (aK [.fact 0 (.one (.s)),.fact 1 (.one (.s)),.fact 2 (.one (.s))] ⟨Rw.Is 2 (fun ι w v=>aT w v (aa ι) (xsa ι)) ma,Rw.Is 2 (fun ι w v=>aT w v (ab ι) (xsb ι)) mb,Rw.Is 2 (fun ι w v=>aT w v (ac ι) (xsc ι)) mc,trivial⟩) bg
theorem walk {w:World}{va vb vc:Value} (hna:ma<=9223372036854775807) (hla:Rw 2 (fun i w v=>aT w v (aa i) (xsa i)) ma w va) (hnb:mb<=9223372036854775807) (hlb:Rw 2 (fun i w v=>aT w v (ab i) (xsb i)) mb w vb) (hnc:mc<=9223372036854775807) (hlc:Rw 2 (fun i w v=>aT w v (ac i) (xsc i)) mc w vc):Calls prog 4 #[va,vb,vc] w (fun e W'=>e = .returned (.bool true)∧w.grownBy W' none):=by
 obtain ⟨cN,hza⟩:∃ez:Nat->Int,∀j,sg (aa j) (Proofs.YtomamliepbhegaaGreat.val 4294967296 ((xsa j).take 1))=ez j:=⟨_,fun _=>rfl⟩
 obtain ⟨cO,hzb⟩:∃ez:Nat->Int,∀j,sg (ab j) (Proofs.YtomamliepbhegaaGreat.val 4294967296 ((xsb j).take 1))=ez j:=⟨_,fun _=>rfl⟩
 obtain ⟨cf,hzc⟩:∃ez:Nat->Int,∀j,sg (ac j) (Proofs.YtomamliepbhegaaGreat.val 4294967296 ((xsc j).take 1))=ez j:=⟨_,fun _=>rfl⟩
 obtain ⟨Na,ol⟩:∃N,min ma 4=N:=⟨_,rfl⟩
 obtain ⟨Nb,om⟩:∃N,min mb 4=N:=⟨_,rfl⟩
 obtain ⟨Nc,oo⟩:∃N,min mc 3=N:=⟨_,rfl⟩
 have bd:∀{m N:Nat}{a:Nat->Bool}{xs:Nat->List Nat}{ez:Nat->Int}{v:Value},Rw 2 (fun i w v=>aT w v (a i) (xs i)) m w v->(∀j,sg (a j) (Proofs.YtomamliepbhegaaGreat.val 4294967296 ((xs j).take 1))=ez j)->N<=m->∀i,i<N->Bd (ez i).natAbs 1:=fun hl hz hN i hi=>by
  obtain ⟨p,c,rfl,_,h1⟩:=hl
  obtain ⟨_,_,_,l,_,_,s,_,_,h2⟩:=h1 i (by omega)
  rw [<- hz i,eK]
  exact Bd.row _ h2 1
 have hba:=ww (bd hla hza (N:=Na) (by omega))
 have hbb:=ww (bd hlb hzb (N:=Nb) (by omega))
 have hbc:=ww (bd hlc hzc (N:=Nc) (by omega))
 have ll:∀(n:Nat) (f:Nat->Int),(aG (mk n f)).length<=n:=fun n f=>by rw [iE];exact aL _ _
 have hlA:=ll Na cN
 have hlB:=ll Nb cO
 have hlC:=ll Nc cf
 have DW:∀(z y:Nat->Int) (n m:Nat),n<=4->m<=3->(mulL z n y m).length<=6:=fun z y n m h1 h2=>by
  have:=aL z n
  have:=aL y m
  unfold mulL
  split
  ·simp
  ·rw [gI];omega
 obtain ⟨PX,hPX⟩:∃P,mulL (ae (aG (mk Na cN))) (aG (mk Na cN)).length (ae (aG (mk Nc cf))) (aG (mk Nc cf)).length=P:=⟨_,rfl⟩
 obtain ⟨PY,hPY⟩:∃P,mulL (ae (aG (mk Nb cO))) (aG (mk Nb cO)).length (ae (aG (mk Nc cf))) (aG (mk Nc cf)).length=P:=⟨_,rfl⟩
 have hlX:PX.length<=6:=hPX▸DW _ _ _ _ (by omega) (by omega)
 have hlY:PY.length<=6:=hPY▸DW _ _ _ _ (by omega) (by omega)
 have htX:tl (ae PX) PX.length=PX.length:=hPX▸DR (DX _ _ _ _)
 have htY:tl (ae PY) PY.length=PY.length:=hPY▸DR (DX _ _ _ _)
 have hbX:∀i,Bd (ae PX i).natAbs 3:=hPX▸DT (by omega) hba hbc
 have hbY:∀i,Bd (ae PY i).natAbs 3:=hPY▸DT (by omega) hbb hbc
 have hpX:∀i,Bd ((pri (ae PX) PX.length).1 i).natAbs 3:=fun i=>qh hbX _ i
 have hpY:∀i,Bd ((pri (ae PY) PY.length).1 i).natAbs 3:=fun i=>qh hbY _ i
 have h6:(pri (ae PX) PX.length).2<=6:=Nat.le_trans (aL _ _) hlX
 have h6':(pri (ae PY) PY.length).2<=6:=Nat.le_trans (aL _ _) hlY
 have hC:=Rd (cI _ _) (cI _ _) h6 h6' hpX hpY
 have hGl:=(wy _ _ (M:=1000) (Nat.le_trans h6 (by omega)) (Nat.le_trans h6' (by omega)) (cD (pri (ae PX) PX.length) (pri (ae PY) PY.length))).1
 by_cases hr:(bL (pri (ae PX) PX.length) (pri (ae PY) PY.length)).2=1
 ·exact DY (Rm hna hza ol hnb hzb om hnc hzc oo hPX hPY hlX hlY htX htY hba hbb hbc hbX hbY hpX hC hGl hr) (vs:=[va,vb,vc]) ⟨oz hla,oz hlb,oz hlc,trivial⟩
 ·exact DY (Ru hna hza ol hnb hzb om hnc hzc oo hPX hPY hlX hlY htX htY hba hbb hbc hbX hbY hpX hC hGl hr) (vs:=[va,vb,vc]) ⟨oz hla,oz hlb,oz hlc,trivial⟩
theorem lifted (os:Os) (started:os.Started) (H:Type) (enc:TypeId×Value->H) :
  ReturnsInHanded {} checked os 4 .any (Rows.pgcdRawSpec.pre6 enc prog f4 Rows.pgcdRawRow.domain false) (Rows.pgcdRawSpec.post enc prog f4 false true false false):=by
 refine returnsInHanded_of_change (C:=checked) Tryz.own started (by kernel_rfl) func4
  (ChangeSpec.witness6 (enc:=enc) (C:=checked) false ⟨#[],#[.slice none 0 0,.slice none 0 0,.slice none 0 0],[]⟩ 8 (by kernel_rfl) (by kernel_rfl) (by kernel_rfl) (by kernel_rfl)) ?_
 intro W base args ds gs before hval0 hW _ _
 have hval:∀(j:Nat) t v,f4.params[j]?=some t->args[j]?=some v->Value.okWide prog W .any base t v:=hval0
 obtain ⟨p,q,hA0,hV,rfl,_,_⟩:=id hW
 have hA:DataW.TrodAll enc prog W 0 (fun _=>true) true f4.params.toList args.toList ds p:=hA0
 rw [params4] at hA hval
 obtain ⟨v0,zj,d0,ds0,p0,q0,hargs,rfl,rfl,h0,r0⟩:=trodAll_cons hA
 obtain ⟨v1,vs1,d1,ds1,p1,q1,rfl,rfl,rfl,h1,r1⟩:=trodAll_cons r0
 obtain ⟨v2,vs2,d2,zk,p2,q2,rfl,rfl,rfl,h2,r2⟩:=trodAll_cons r1
 obtain ⟨rfl,rfl,rfl⟩:=trodAll_nil r2
 obtain rfl:args = #[v0,v1,v2]:=by cases args;simp_all
 obtain ⟨n0,a0,xs0,l0,s0⟩:=wz h0 (hval 0 28 v0 rfl rfl)
 obtain ⟨n1,a1,xs1,l1,s1⟩:=wz h1 (hval 1 28 v1 rfl rfl)
 obtain ⟨n2,a2,xs2,l2,s2⟩:=wz h2 (hval 2 28 v2 rfl rfl)
 refine (walk l0 s0 l1 s1 l2 s2).mono fun e W' ⟨he,hg⟩=>?_
 subst he
 refine ⟨_,rfl,Rx Tryz.laidOut rfl underlying4 ?_ ?_ hW hg⟩
 ·rw [params4];decide +kernel
 ·rw [params4]
  intro ds h
  match ds,h with
  | [_,_,_],_=>rfl
theorem holds:Rows.PgcdRawSaid:=
 OpenClaim.holds_of_wide 4 f4 rfl rfl rfl rfl rfl rfl rfl ⟨rfl,rfl,rfl,rfl,rfl⟩ rfl rfl rfl rfl rfl (by kernel_rfl) func4 (by kernel_rfl)
  (of_decide_eq_true (by kernel_rfl)) (by unfold Func.isWrapper;first | (rw [if_pos (by decide +kernel)];kernel_rfl) | (rw [if_neg (by decide +kernel)];exact ⟨rfl,rfl⟩))
  (fun os started H enc _=>lifted os started H enc)
end Go.Proofs.YtomamliepbhegaaGreat.graw
