/- common, Gcd -/
import Derived.Test.YtomamliepbhegaaGreatModI
import Derived.Test.YtomamliepbhegaaGreatPolP
import Derived.Test.YtomamliepbhegaaGreatRowP
set_option maxRecDepth 100000
namespace Go.Proofs.YtomamliepbhegaaGreat.Sym
open Go.Proofs.Tryz
open Go.RowKit
variable {a b z:Nat->Int}{K k k1 k2 ka kb la lb m n:Nat}{c s t:(Nat->Int)×Nat}{zz:Nat->Nat->Int}{ln:Nat->Nat}
def XB (a b:Nat->Int) (la lb ka kb:Nat):List WP:=[Rw 2 (Nf a ka) la,Rw 2 (Nf b kb) lb,Nz la]
def XC:List Step:=[bQ [0] [oN 2] (aC 28),bQ [2,.lit (.ci .i64 0)] oT (ak .eql)]
def XD:List Out:=[oS 0,oS 1]
theorem XE  (_hla:la<=1000) (_hlb:lb<=1000) (h1:la=0):aj (ph (XB a b la lb ka kb)) prog ⟨34,[0,1],[oS 1],false⟩:=aV XD [oS 1] XC func34 (by kernel_rfl) (lB (aJ (F:=(Nf a ka)) underlying28 ad rfl) (lB (ic ad) au))
  (aK [.fact 0 (.one (.s)),.fact 1 (.one (.s))] ⟨Rw.Is 2 (Nf a ka) la,Rw.Is 2 (Nf b kb) lb,trivial⟩) bg
def XF (a b:Nat->Int) (la lb ka kb:Nat):List WP:=[Rw 2 (Nf a ka) la,Rw 2 (Nf b kb) lb,Nz la,Nz lb]
def XG:List Step:=[bQ [0] [oN 2] (aC 28),bQ [2,.lit (.ci .i64 0)] oF (ak .eql),bQ [1] [oN 3] (aC 28),bQ [3,.lit (.ci .i64 0)] oT (ak .eql)]
def XH:List Out:=[oS 0,oS 1]
theorem XI  (_hla:la<=1000) (_hlb:lb<=1000) (h1:la≠0) (h2:lb=0):aj (ph (XF a b la lb ka kb)) prog ⟨34,[0,1],[oS 0],false⟩:=aV XH [oS 0] XG func34 (by kernel_rfl) (lB (aJ (F:=(Nf a ka)) underlying28 ad rfl) (lB (dg ad) (lB (aJ (F:=(Nf b kb)) underlying28 ad rfl) (lB (ic ad) au))))
  (aK [.fact 0 (.one (.s)),.fact 1 (.one (.s))] ⟨Rw.Is 2 (Nf a ka) la,Rw.Is 2 (Nf b kb) lb,trivial⟩) bg
def XJ (a b:Nat->Int) (la lb ka kb:Nat):List WP:=[Rw 2 (Nf a ka) la,Rw 2 (Nf b kb) lb,Nz la,Nz lb,Nz la,Ni 1,fun w v=>Rw 1 (fun i _ v=>v = .agg #[.int .i64 ((fun _=>1) i)]) 1 w v,Rw 2 (Nf (ae [1]) 2) (([1]:List Int).length)]
def XK:List Step:=[bQ [0] [oN 2] (aC 28),bQ [2,.lit (.ci .i64 0)] oF (ak .eql),bQ [1] [oN 3] (aC 28),bQ [3,.lit (.ci .i64 0)] oF (ak .eql),bQ [0] [oN 4] (aC 28),bQ [4,.lit (.ci .i64 1)] oT (ak .eql),.derive (.one (.ci .i64 1)) (.one (.lit (.ci .i64 1))) [] 5,.base ⟨0,[.any,5],[oS 6],.loose [] 2 0 (dq 22 1)⟩,.base ⟨20,[6],[oS 7],.cC [2] false⟩]
def XL:List Out:=[oS 0,oS 1]
theorem XM  (_hla:la<=1000) (_hlb:lb<=1000) (h1:la=1) (h2:lb≠0):aj (ph (XJ a b la lb ka kb)) prog ⟨34,[0,1],[oS 7],false⟩:=aV XL [oS 7] XK func34 (by kernel_rfl) (lB (aJ (F:=(Nf a ka)) underlying28 ad rfl) (lB (dg ad) (lB (aJ (F:=(Nf b kb)) underlying28 ad rfl) (lB (dg ad) (lB (aJ (F:=(Nf a ka)) underlying28 ad rfl) (lB (ic ad) (ej (gE rfl) (lB (tD (a:=1) ad rfl) (lB (cS [2] (kX (z:=fun _=>1) (n:=1) (zs:=[1]) ad rfl (fun _=>⟨by decide,by decide⟩))) au)))))))))
  (aK [.fact 0 (.one (.s)),.fact 1 (.one (.s))] ⟨Rw.Is 2 (Nf a ka) la,Rw.Is 2 (Nf b kb) lb,trivial⟩) bg
def XN (a b:Nat->Int) (la lb ka kb:Nat):List WP:=[Rw 2 (Nf a ka) la,Rw 2 (Nf b kb) lb,Nz la,Nz lb,Nz la,Nz lb,Ni 1,fun w v=>Rw 1 (fun i _ v=>v = .agg #[.int .i64 ((fun _=>1) i)]) 1 w v,Rw 2 (Nf (ae [1]) 2) (([1]:List Int).length)]
def XO:List Step:=[bQ [0] [oN 2] (aC 28),bQ [2,.lit (.ci .i64 0)] oF (ak .eql),bQ [1] [oN 3] (aC 28),bQ [3,.lit (.ci .i64 0)] oF (ak .eql),bQ [0] [oN 4] (aC 28),bQ [4,.lit (.ci .i64 1)] oF (ak .eql),bQ [1] [oN 5] (aC 28),bQ [5,.lit (.ci .i64 1)] oT (ak .eql),.derive (.one (.ci .i64 1)) (.one (.lit (.ci .i64 1))) [] 6,.base ⟨0,[.any,6],[oS 7],.loose [] 2 0 (dq 22 1)⟩,.base ⟨20,[7],[oS 8],.cC [2] false⟩]
def XP:List Out:=[oS 0,oS 1]
theorem XQ  (_hla:la<=1000) (_hlb:lb<=1000) (h1:la≠0) (h2:lb=1) (h3:la≠1):aj (ph (XN a b la lb ka kb)) prog ⟨34,[0,1],[oS 8],false⟩:=aV XP [oS 8] XO func34 (by kernel_rfl) (lB (aJ (F:=(Nf a ka)) underlying28 ad rfl) (lB (dg ad) (lB (aJ (F:=(Nf b kb)) underlying28 ad rfl) (lB (dg ad) (lB (aJ (F:=(Nf a ka)) underlying28 ad rfl) (lB (dg ad) (lB (aJ (F:=(Nf b kb)) underlying28 ad rfl) (lB (ic ad) (ej (gE rfl) (lB (tD (a:=1) ad rfl) (lB (cS [2] (kX (z:=fun _=>1) (n:=1) (zs:=[1]) ad rfl (fun _=>⟨by decide,by decide⟩))) au)))))))))))
  (aK [.fact 0 (.one (.s)),.fact 1 (.one (.s))] ⟨Rw.Is 2 (Nf a ka) la,Rw.Is 2 (Nf b kb) lb,trivial⟩) bg
def XR (a b G:Nat->Int) (la lb ka kb d:Nat):List WP:=[Rw 2 (Nf a ka) la,Rw 2 (Nf b kb) lb,Nz la,Nz lb,Nz la,Nz lb,Rw 2 (Nf G 257) (d+1)]
def XS:List Step:=[bQ [0] [oN 2] (aC 28),bQ [2,.lit (.ci .i64 0)] oF (ak .eql),bQ [1] [oN 3] (aC 28),bQ [3,.lit (.ci .i64 0)] oF (ak .eql),bQ [0] [oN 4] (aC 28),bQ [4,.lit (.ci .i64 1)] oF (ak .eql),bQ [1] [oN 5] (aC 28),bQ [5,.lit (.ci .i64 1)] oF (ak .eql),.base ⟨67,[0,1],[oS 6],false⟩]
def XT:List Out:=[oS 0,oS 1]
theorem XU {G:Nat->Int}{u t d:Nat} (hla:la<=1000) (hlb:lb<=1000) (h1:la≠0) (h2:lb≠0) (h3:la≠1) (h4:lb≠1) (hs:Vz (a,la)) (hz:Vz (b,lb)) (hka:ka<=100) (hkb:kb<=100) (hsz:(la+lb+1)*258<=80000) (hba:∀i,Bd (a i).natAbs ka) (hbb:∀i,Bd (b i).natAbs kb)
  (hG:(gcS (a,la) (b,lb) (cD (a,la) (b,lb))).1.1=G) (hd:(gcS (a,la) (b,lb) (cD (a,la) (b,lb))).1.2=d+1) (hA:∀i,(a i).natAbs<=K) (hB:∀i,(b i).natAbs<=K) (hKu:K+(2*(la+lb)*K) ^ (la+lb)<2147000000 ^ (u+1)) (hKv:2*(K*(K+(2*(la+lb)*K) ^ (la+lb)))+1<=2147000000 ^ t) (hv:0<t) (huv:t+u+t<256):aj (ph (XR a b G la lb ka kb d)) prog ⟨34,[0,1],[oS 6],false⟩:=aV XT [oS 6] XS func34 (by kernel_rfl) (lB (aJ (F:=(Nf a ka)) underlying28 ad rfl) (lB (dg ad) (lB (aJ (F:=(Nf b kb)) underlying28 ad rfl) (lB (dg ad) (lB (aJ (F:=(Nf a ka)) underlying28 ad rfl) (lB (dg ad) (lB (aJ (F:=(Nf b kb)) underlying28 ad rfl) (lB (dg ad) (lB (XA (a:=a) (b:=b) (G:=G) (K:=K) (u:=u) (v:=t) (d:=d) (Rw.To 2 (Nf a ka) la (fun _ _ _ _ h=>ai.i h)) (Rw.To 2 (Nf b kb) lb (fun _ _ _ _ h=>ai.i h)) rfl hs hz hba hbb hG hd hA hB hKu hKv hv huv) au)))))))))
  (aK [.fact 0 (.one (.s)),.fact 1 (.one (.s))] ⟨Rw.Is 2 (Nf a ka) la,Rw.Is 2 (Nf b kb) lb,trivial⟩) bg
def gi (s t:(Nat->Int)×Nat) (ka kb:Nat):Prop:=s.2<=1000∧t.2<=1000∧(2<=s.2->2<=t.2->ka<=100∧kb<=100∧(s.2+t.2+1)*258<=80000∧(∀i,Bd (s.1 i).natAbs ka)∧(∀i,Bd (t.1 i).natAbs kb) ∧
 ∃K u v:Nat,(∀i,(s.1 i).natAbs<=K)∧(∀i,(t.1 i).natAbs<=K) ∧ 
  K+(2*(s.2+t.2)*K) ^ (s.2+t.2)<2147000000 ^ (u+1)∧2*(K*(K+(2*(s.2+t.2)*K) ^ (s.2+t.2)))+1<=2147000000 ^ v∧0<v∧v+u+v<256)
section
variable {Φ:PH}{p q x kc:Nat}
theorem XV  (hp:∀w v,Φ p w v->Rw 2 (Nf s.1 ka) s.2 w v) (hq:∀w v,Φ q w v->Rw 2 (Nf t.1 kb) t.2 w v) (hx:Φ x=Rw 2 (Nf c.1 kc) c.2)
  (hs:Vz s) (ht:Vz t) (hc:cmn s t=c) (hB:∀i,Bd (c.1 i).natAbs kc) (hC:gi s t ka kb):aj Φ prog ⟨34,[.fact p,.fact q],[oS x],false⟩:=by
 obtain ⟨a,la⟩:=s
 obtain ⟨b,lb⟩:=t
 obtain ⟨hla,hlb,hC⟩:=hC
 dsimp only at hla hlb hp hq hC
 by_cases h1:la=0
 ·have hc':c=(b,lb):=by rw [<- hc,cmn];exact if_pos h1
  subst hc'
  refine aW (XE (a:=a) (b:=b) (ka:=ka) (kb:=kb) hla hlb h1) ⟨hp,hq,trivial⟩ ⟨⟨rfl,⟨rfl,rfl,fun w v h=>?_⟩,trivial⟩,trivial⟩
  have h':Rw 2 (Nf b kb) lb w v:=h
  rw [hx]
  exact h'.to fun i w v hi h=>ai.re h (hB i)
 by_cases h2:lb=0
 ·have hc':c=(a,la):=by rw [<- hc,cmn];exact (if_neg h1).trans (if_pos h2)
  subst hc'
  refine aW (XI (a:=a) (b:=b) (ka:=ka) (kb:=kb) hla hlb h1 h2) ⟨hp,hq,trivial⟩ ⟨⟨rfl,⟨rfl,rfl,fun w v h=>?_⟩,trivial⟩,trivial⟩
  have h':Rw 2 (Nf a ka) la w v:=h
  rw [hx]
  exact h'.to fun i w v hi h=>ai.re h (hB i)
 have one:∀w v,la=1∨lb=1->Rw 2 (Nf (ae [1]) 2) 1 w v->Φ x w v:=fun w v h3 h=>by
  have hc':c=(fun i=>if i=0 then 1 else 0,1):=by rw [<- hc,cmn];exact (if_neg h1).trans ((if_neg h2).trans (if_pos h3))
  subst hc'
  rw [hx]
  refine h.to fun i w v hi h=>?_
  obtain rfl:i=0:=by omega
  exact ai.re h (hB 0)
 by_cases h3:la=1
 ·exact aW (XM (a:=a) (b:=b) (ka:=ka) (kb:=kb) hla hlb h3 h2) ⟨hp,hq,trivial⟩ ⟨⟨rfl,⟨rfl,rfl,fun w v h=>one w v (.inl h3) h⟩,trivial⟩,trivial⟩
 by_cases h4:lb=1
 ·exact aW (XQ (a:=a) (b:=b) (ka:=ka) (kb:=kb) hla hlb h1 h4 h3) ⟨hp,hq,trivial⟩ ⟨⟨rfl,⟨rfl,rfl,fun w v h=>one w v (.inr h4) h⟩,trivial⟩,trivial⟩
 have hc':c=bL (a,la) (b,lb):=by rw [<- hc,cmn];exact (if_neg h1).trans ((if_neg h2).trans (if_neg (by omega)))
 obtain ⟨hka,hkb,hsz,hba,hbb,K,u,v,hA,hB',hKu,hKv,hv,huv⟩:=hC (by omega) (by omega)
 obtain ⟨d,hd⟩:∃d,(bL (a,la) (b,lb)).2=d+1:=⟨(bL (a,la) (b,lb)).2-1,by
  have:=(sq hs ht (show 0<lb by omega)).1
  unfold bL
  omega⟩
 refine aW (XU (a:=a) (b:=b) (ka:=ka) (kb:=kb) (G:=(bL (a,la) (b,lb)).1) (d:=d) (K:=K) (u:=u) (t:=v) hla hlb h1 h2 h3 h4 hs ht hka hkb hsz hba hbb rfl hd hA hB' hKu hKv hv huv) ⟨hp,hq,trivial⟩ ⟨⟨rfl,⟨rfl,rfl,fun w v h=>?_⟩,trivial⟩,trivial⟩
 have h':Rw 2 (Nf ((bL (a,la) (b,lb)).1) 257) (d+1) w v:=h
 rw [hx,hc',hd]
 exact h'.to fun i w v hi h=>ai.re h (hc'▸hB i)
end
def gcF (zz:Nat->Nat->Int) (ln:Nat->Nat):Nat->(Nat->Int)×Nat
 | 0=>(fun _=>0,0)
 | j+1=>cmn (gcF zz ln j) (pri (zz j) (ln j))
theorem XW:Vz (fun i=>if i=0 then 1 else 0,1):=⟨fun i hi=>if_neg (by dsimp only at hi;omega),fun _=>⟨by show (0:Int)<if 1-1=0 then 1 else 0;decide,fun p hp=>⟨0,fun h=>by
 have h':(p:Int)∣1:=h
 have:=Int.le_of_dvd (by omega) h'
 have:=hp.1
 omega⟩⟩⟩
theorem tE  (hs:Vz s) (ht:Vz t):Vz (cmn s t):=by
 unfold cmn
 split
 ·exact ht
 ·split
  ·exact hs
  ·split
   ·exact XW
   ·exact PV hs ht
theorem GK {zz:Nat->Nat->Int}{ln:Nat->Nat}:∀j,Vz (gcF zz ln j)
 | 0=>PW
 | j+1=>tE (GK j) (cI _ _)
def xM (zz:Nat->Nat->Int) (ln:Nat->Nat) (n k k2:Nat):List WP:=[Rw 1 (bS zz ln k) n,Nz n,Rw 2 (Nf ((gcF zz ln n).1) k2) ((gcF zz ln n).2)]
def XX (zz:Nat->Nat->Int) (ln:Nat->Nat) (k k2:Nat) (j:Nat):List WP:=[Nz j,Rw 2 (Nf ((gcF zz ln j).1) k2) ((gcF zz ln j).2),fun w v=>Ptr 1 (fun w v=>∃s,v = .agg #[s]∧Rw 2 (If (zz j) k) (ln j) w s) w v,Rw 2 (If (zz j) k) (ln j),Nw (ba (zz j) (ln j)) k,Rw 2 (Nf ((pri (zz j) (ln j)).1) k) ((pri (zz j) (ln j)).2),fun w v=>Rw 2 (fun ι w v=>ai w v ((gcF zz ln (j+1)).1 ι) k2) ((gcF zz ln (j+1)).2) w v,Nz (j+1)]
def GL:bf:=⟨[0,2,6,7],[(.slot 8,.i),(.slot 3,.s)],[(.one 0,3),(.one 1,4)],[.closed (.one (.ci .i64 0)),.closed (.one (.nl))],3,[(4,2)]⟩
def GM:List Step:=[bQ [3,1] oT (ak .lss),bQ [0,3] [oP 5] (aH 59),bQ [5] [oS 6] (aI 28),.base ⟨33,[6],[oI 7,oS 8],true⟩,.base ⟨34,[4,8],[oS 9],false⟩,bQ [3,.lit (.ci .i64 1)] [oN 10] (ak .add)]
def XY:List Step:=[bQ [3,1] oF (ak .lss)]
def XZ:List Step:=[bQ [0] [oN 1] (aC 59),.loop GL [(GM,[.frm 10,.frm 9])] XY]
def Yb:List Out:=[oS 0]
theorem Yc  (hn:n<=1000) (hk:k<=100) (hln:∀i,i<n->ln i<=1000) (hBd:∀j,j<=n->∀i,Bd ((gcF zz ln j).1 i).natAbs k2) (hC:∀j,j<n->gi (gcF zz ln j) (pri (zz j) (ln j)) k2 k):aj (ph (xM zz ln n k k2)) prog ⟨11,[0],[oS 2],false⟩:=aV Yb [oS 2] XZ func11 (by kernel_rfl) (lB (aJ (F:=(bS zz ln k)) underlying59 ad rfl) (bk (counted n (fun j=>ph (xM zz ln n k k2 ++ XX zz ln k k2 j)) (fun _=>0) (fun j p hp=>bm (show p<(xM zz ln n k k2).length from hp)) ⟨fun _=>rfl,fun w=>Rw.nil 2 (Nf ((gcF zz ln 0).1) k2) w,trivial⟩ (fun j hj=>by
   have h3:=hln j hj
   exact ⟨(GM,[.frm 10,.frm 9]),rfl,⟨ad,ad,trivial⟩,(lB (bT ad ad) (lB (bz (i:=j) (F:=(bS zz ln k)) underlying59 ad ad rfl) (lB (nV ad (fun _ _ h=>tF h) rfl) (lB (AB (Rw.To 2 (fun ι w v=>aE w v ((zz j) ι) k) (ln j) (fun _ _ _ _ h=>h)) rfl rfl (by omega) rfl (by rw [dvL,gI];rfl)) (lB (XV (s:=gcF zz ln j) (t:=pri (zz j) (ln j)) ad ad rfl (GK j) (cI _ _) rfl (hBd (j+1) (by omega)) (hC j hj)) (lB (ce ad rfl) au))))))⟩) (lB (tlF ad ad) au)
   (fun q hq w v h=>by
    simp only [GL,List.mem_cons,List.not_mem_nil,or_false] at hq
    rcases hq with rfl
    ·exact (fun h=>h) h)) au))
  (aK [.fact 0 (.one (.s))] ⟨Rw.Is 1 (bS zz ln k) n,trivial⟩) bg
section
variable {Φ:PH}{p x:Nat}
theorem Yd  (hp:∀w v,Φ p w v->Rw 1 (bS zz ln k) n w v) (hx:Φ x=Rw 2 (Nf c.1 k2) c.2) (hk:k<=100) (hln:∀i,i<n->ln i<=1000) (hBd:∀j,j<=n->∀i,Bd ((gcF zz ln j).1 i).natAbs k2)
  (hC:∀j,j<n->gi (gcF zz ln j) (pri (zz j) (ln j)) k2 k) (hc:gcF zz ln n=c) (hn:n<=1000:=by omega):aj Φ prog ⟨11,[.fact p],[oS x],false⟩:=
 aW (Yc hn hk hln hBd hC) ⟨hp,trivial⟩ ⟨⟨rfl,⟨rfl,rfl,fun _ _ h=>hx▸hc▸h⟩,trivial⟩,trivial⟩
end
def drv (z:Nat->Int) (i:Nat):Int:=(((i+1):Nat):Int)*z (i+1)
def Ye (z:Nat->Int) (n k:Nat):List WP:=[Rw 2 (If z k) n,Rw 2 (If z k) (tl z n),Nz (tl z n)]
def Yf:List Step:=[.base ⟨42,[0],[oS 1],false⟩,bQ [1] [oN 2] (aC 28),bQ [2,.lit (.ci .i64 0)] oT (ak .eql)]
def Yg:List Out:=[oS 0]
theorem Yh  (hn:n<=1000000) (hk:k<=100000) (hT:tl z n=0):aj (ph (Ye z n k)) prog ⟨102,[0],[⟨.one (.lit (.nl)),[]⟩],false⟩:=aV Yg [⟨.one (.lit (.nl)),[]⟩] Yf func102 (by kernel_rfl) (lB (iN (z:=z) (n:=n) (k:=k) (F:=(If z k)) ad bg (fun _ _ _ _ g h=>aE.kp h g) rfl) (lB (aJ (F:=(If z k)) underlying28 ad rfl) (lB (ic ad) au)))
  (aK [.fact 0 (.one (.s))] ⟨Rw.Is 2 (If z k) n,trivial⟩) bg
def xN (z:Nat->Int) (n k m:Nat):List WP:=[Rw 2 (If z k) n,Rw 2 (If z k) (tl z n),Nz (tl z n),Nz m,ah 2 57 (Nf (upto 0 (drv z)) (2+k)) m,cw m,Nz m,ah 2 57 (Nf (upto m (drv z)) (2+k)) m]
def Yi (z:Nat->Int) (k m:Nat) (j:Nat):List WP:=[Nz j,ah 2 57 (Nf (upto j (drv z)) (2+k)) m,fun _ _=>True,Nz (j+1),Nw (((j+1):Nat):Int) 2,Nz (j+1),Ptr 2 (Iw (z (j+1)) k),Iw (z (j+1)) k,Nw ((((j+1):Nat):Int)*(z (j+1))) (2+k),At 2,Ptr 2 (Nw ((upto j (drv z)) j) (2+k)),fun w v=>ah 2 57 (fun ι w v=>ai w v ((upto (j+1) (drv z)) ι) (2+k)) m w v,Nz (j+1)]
def GN:bf:=⟨[0,2,5,6,7,8,9,10,11,12,13,14],[(.slot 15,.i),(.slot 3,.s)],[(.one 0,8),(.one 1,.bB [1] 9),(.one 1,.lo 1)],[.closed (.one (.ci .i64 0)),.frm 4,.frm 0],8,[(9,7)]⟩
def GO:List Step:=[bQ [8,6] oT (ak .lss),bQ [8,.lit (.ci .i64 1)] [oN 11] (ak .add),.base ⟨54,[11],[oI 12],false⟩,bQ [8,.lit (.ci .i64 1)] [oN 13] (ak .add),bQ [1,13] [oP 14] (aH 28),bQ [14] [oI 15] (aI 57),.base ⟨44,[12,15],[oI 16],false⟩,.base ⟨0,[9,8],[oP 18],.joint [1] 17 (aH 28)⟩,.base ⟨0,[9,8,.any,16],[oS 19],.put [] 1 0 17 (dR 57 (.tmp 18) (.tmp 19))⟩,bQ [8,.lit (.ci .i64 1)] [oN 20] (ak .add)]
def Yj:List Step:=[bQ [8,6] oF (ak .lss)]
def Yk:List Step:=[.base ⟨42,[0],[oS 1],false⟩,bQ [1] [oN 2] (aC 28),bQ [2,.lit (.ci .i64 0)] oF (ak .eql),.base ⟨35,[1],[oN 3],false⟩,.base ⟨0,[3,3],[oS 4],.loose [] 1 0 (fE 28)⟩,.freed (.one (.s 10 0)) 4 5,bQ [5] [oN 6] (aC 28),.loop GN [(GO,[.frm 20,.frm 19,.frm 0])] Yj]
def Ym:List Out:=[oS 0]
theorem Yn  (hn:n<=1000000) (hk:k<=100000) (hT:tl z n=m+1) (hm:m<=1000000:=by omega):aj (ph (xN z n k m)) prog ⟨102,[0],[oS 7],false⟩:=by
 have hle:=aL z n
 exact aV Ym [oS 7] Yk func102 (by kernel_rfl) (lB (iN (z:=z) (n:=n) (k:=k) (F:=(If z k)) ad bg (fun _ _ _ _ g h=>aE.kp h g) rfl) (lB (aJ (F:=(If z k)) underlying28 ad rfl) (lB (dg ad) (lB (kG (n:=(tl z n)) (fun _ _ h=>Rw.iZ (sz:=2) (F:=(If z k)) (n:=(tl z n)) h) rfl) (lB (jc (n:=m) (F:=(Nf (upto 0 (drv z)) (2+k))) ad (fun i w=>ai.zero w (2+k)) rfl) (cR (de (e:=57) (sz:=2) (n:=m) (F:=(Nf (upto 0 (drv z)) (2+k))) ad rfl) (lB (ch (n:=m) underlying28 ad rfl) (bk (counted m (fun j=>ph (xN z n k m ++ Yi z k m j)) (fun _=>0) (fun j p hp=>bm (show p<(xN z n k m).length from hp)) ⟨fun _=>rfl,ad,aP,trivial⟩ (fun j hj=>by
   skip
   exact ⟨(GO,[.frm 20,.frm 19,.frm 0]),rfl,⟨ad,ad,aP,trivial⟩,(lB (bT ad ad) (lB (ce ad rfl) (lB (mW ad rfl rfl) (lB (ce ad rfl) (lB (bz (i:=(j+1)) (F:=(If z k)) underlying28 ad ad rfl) (lB (cm (sz:=2) (F:=Iw (z (j+1)) k) ad (fun _ _ _ g h=>aE.kp h g) (fun _ _ h=>aE.is h) rfl) (lB (jd nI iI rfl rfl) (lB (bW (i:=j) (sz:=2) (n:=m) (F:=(Nf (upto j (drv z)) (2+k))) underlying28 (fun _ _ h=>ah.arr h) ad rfl rfl) (lB (fD (i:=j) (n:=m) (F:=(fun ι w v=>ai w v ((upto j (drv z)) ι) (2+k))) (F':=(fun ι w v=>ai w v ((upto (j+1) (drv z)) ι) (2+k))) (G:=Nw ((((j+1):Nat):Int)*(z (j+1))) (2+k)) (.tmp 18) (.tmp 19) ad ad ad rfl (fun _ _ h=>ai.cells h) (fun _ _ _ _ g h=>ai.kp h g) (fun _ _ _ g h=>ai.kp h g) (fun i w v hi h=>by rw [od hi];exact h) (fun w v h=>by rw [oe];exact h) rfl) (lB (ce ad rfl) au))))))))))⟩) (lB (tlF ad ad) au)
   (fun q hq w v h=>by
    simp only [GN,List.mem_cons,List.not_mem_nil,or_false] at hq
    rcases hq with rfl
    ·exact (fun h=>h) h)) au))))))))
  (aK [.fact 0 (.one (.s))] ⟨Rw.Is 2 (If z k) n,trivial⟩) bg
section
variable {Φ:PH}{p q x n0 n1 kg:Nat}{y g:Nat->Int}
theorem Yo (hp:∀w v,Φ p w v->Rw 2 (If z k) n w v) (hx:Φ x=Rw 2 (Nf (drv z) (2+k)) (tl z n-1)) (hn:n<=1000000) (hk:k<=100000):aj Φ prog ⟨102,[.fact p],[oS x],false⟩:=by
 have hle:=aL z n
 rcases Nat.eq_zero_or_pos (tl z n) with h0 | h0
 ·exact fun X w vs hX hag=>(Yh (k:=k) hn hk h0 X w vs hX (fu.ok (l:=[.fact p]) (m:=[0]) ⟨hp,trivial⟩ hag)).mono fun e w' ⟨hg,us,he,ho⟩=>⟨hg,us,he,by
   match us,ho with
   | [u],ho=>
    have hu:u = .slice none 0 0:=ho.1.1.1
    subst hu
    refine ⟨⟨Rw.is (sz:=2) (F:=Nf (drv z) (2+k)) (n:=0) (Rw.nil 2 _ w'),fun f hf w1 hw1=>?_⟩,trivial⟩
    simp only [List.mem_singleton] at hf
    subst hf
    show Φ x w1 (.slice none 0 0)
    rw [hx,h0]
    exact Rw.nil 2 _ w1⟩
 ·obtain ⟨m,hm⟩:∃m,tl z n=m+1:=⟨tl z n-1,by omega⟩
  refine aW (Yn (k:=k) hn hk hm) ⟨hp,trivial⟩ ⟨⟨rfl,⟨rfl,rfl,fun w v h=>?_⟩,trivial⟩,trivial⟩
  rw [hx,hm,Nat.add_sub_cancel]
  exact Rw.to (sz:=2) (n:=m) (F:=Nf (upto m (drv z)) (2+k)) (ah.rw (e:=57) h) fun i w v hi h=>h.eq (gx hi)
theorem Yp (hp:∀w v,Φ p w v->Rw 2 (If z k) n0 w v) (hq:∀w v,Φ q w v->Rw 2 (If y k1) n1 w v) (hx:Φ x=Rw 2 (Nf g kg) (n0+1-n1)) (hn0:n0<=1000) (hn1:n1<=1000) (hk:∀i,Bd (z i).natAbs k) (hk1:∀i,Bd (y i).natAbs k1) (hK:k+(n0+1)*(k1+1)<=90000)
  (hz0:∀i,n0<=i->z i=0) (hzt:tl z n0=n0) (hy0:∀i,n1<=i->y i=0) (hyt:tl y n1=n1) (na:0<n1) (hg0:∀i,n0+1-n1<=i->g i=0) (hzg:∀i,z i=conv g y i) (hgb:∀i,Bd (g i).natAbs kg) :
  aj Φ prog ⟨122,[.fact p,.fact q],[oS x,oL (.ci .i64 0)],true⟩:=by
 obtain ⟨Z,hZ⟩:∃Z,aG (mk n0 z)=Z:=⟨_,rfl⟩
 obtain ⟨Y,hY⟩:∃Y,aG (mk n1 y)=Y:=⟨_,rfl⟩
 have eZ:ae Z=z:=funext fun i=>by
  rw [<- hZ,qK]
  unfold upto
  split
  ·rfl
  ·exact (hz0 i (by omega)).symm
 have eY:ae Y=y:=funext fun i=>by
  rw [<- hY,qK]
  unfold upto
  split
  ·rfl
  ·exact (hy0 i (by omega)).symm
 have lZ:Z.length=n0:=by rw [<- hZ,iE,hzt]
 have lY:Y.length=n1:=by rw [<- hY,iE,hyt]
 obtain ⟨nb,rfl⟩:∃nb,n1=nb+1:=⟨n1-1,by omega⟩
 obtain ⟨m,hm⟩:∃m,n0-nb=m:=⟨_,rfl⟩
 obtain ⟨c,hc⟩:∃c,y nb=c:=⟨_,rfl⟩
 have hc0:c≠0:=by
  have:=fb y (nb+1) (by omega)
  rw [hyt,Nat.add_sub_cancel,hc] at this
  exact this
 have hld:dc (ae Y) (nb+1)=c:=by
  rw [eY,dc,hyt,if_neg (by omega),Nat.add_sub_cancel,hc]
 have hyo:∀i,nb<i->y i=0:=fun i hi=>hy0 i (by omega)
 have hKm:k+(m+1)*(k1+1)<=k+(n0+1)*(k1+1):=Nat.add_le_add_left (Nat.mul_le_mul_right _ (by omega)) k
 have hkk:k<=90000:=by omega
 have qL:k1<=90000:=by
  have:1*(k1+1)<=(n0+1)*(k1+1):=Nat.mul_le_mul_right _ (by omega)
  omega
 obtain ⟨K,hKd⟩:∃K,k+(m+1)*(k1+1)=K:=⟨_,rfl⟩
 have hM:∀j i p,j<m->Bd (exM (ae Z) (ae Y) nb m c j i p).natAbs K:=fun j i p hj=>by
  rw [eZ,eY,<- hKd]
  refine ((Gj (n:=nb) (m:=m) (c:=c) hk hk1 j).2 i p).more ?_
  have:(j+1)*(k1+1)<=(m+1)*(k1+1):=Nat.mul_le_mul_right _ (by omega)
  omega
 have hgm:∀i,m<=i->g i=0:=fun i hi=>hg0 i (by omega)
 have hev:=CL hc hyo hc0 hgm hzg
 refine aW (AH (K:=K) (Z:=Z) (Y:=Y) (c:=c) (m:=m) (by omega) (by omega) hkk qL hY (by omega) lY (by omega) hZ (by omega) (by omega) (by omega) hld hc0 (by rw [eZ,eY];exact hev.1) hM ?_) ⟨hp,hq,trivial⟩ ⟨⟨rfl,⟨rfl,rfl,fun w v h=>?_⟩,trivial⟩,⟨rfl,trivial⟩,trivial⟩
 ·rw [eZ,eY,lZ]
  have h0:tl (aQ z y nb m c m) (min nb n0)=0:=Classical.byContradiction fun hne=>by
   have h1:=fb (aQ z y nb m c m) (min nb n0) (by omega)
   have h2:=aL (aQ z y nb m c m) (min nb n0)
   exact h1 (hev.2 _ (by omega))
  exact List.length_eq_zero_iff.1 (by rw [iE,h0])
 ·rw [hx,show n0+1-(nb+1)=m by omega]
  refine Rw.to (sz:=2) (n:=m) (F:=Nf (dto m m (exT (ae Z) (ae Y) nb m c)) K) (ah.rw (e:=57) h) fun i w v hi h=>?_
  have e:dto m m (exT (ae Z) (ae Y) nb m c) i=g i:=by
   unfold dto exT
   rw [if_pos (by omega),eZ,eY,sv hc hyo hc0 hgm hzg (by omega) _ (by omega),show m-(m-1-i)=i+1 by omega,gM (f:=upto (i+1) g) (i:=i) (k:=nb) (fun j hj=>if_neg (by omega)) hyo,hc,Int.mul_ediv_cancel _ hc0]
   exact if_pos (by omega)
  exact ai.re (h.eq e) (hgb i)
end
def Yq (z y q:Nat->Int) (n0 n1 k k1 kg:Nat):List WP:=[Rw 2 (If z k) n0,Rw 2 (If y k1) n1,Rw 2 (Nf q kg) (n0+1-n1)]
def Yr:List Step:=[.base ⟨122,[0,1],[oS 2,oL (.ci .i64 0)],true⟩]
def Ys:List Out:=[oS 0,oS 1]
theorem Yt {y q:Nat->Int}{n0 n1 kg:Nat} (hn0:n0<=1000) (hn1:n1<=1000) (hk:∀i,Bd (z i).natAbs k) (hk1:∀i,Bd (y i).natAbs k1) (hK:k+(n0+1)*(k1+1)<=90000) (hz0:∀i,n0<=i->z i=0) (hzt:tl z n0=n0) (hy0:∀i,n1<=i->y i=0) (hyt:tl y n1=n1) (na:0<n1) (hg0:∀i,n0+1-n1<=i->q i=0) (hzg:∀i,z i=conv q y i) (hgb:∀i,Bd (q i).natAbs kg):aj (ph (Yq z y q n0 n1 k k1 kg)) prog ⟨103,[0,1],[oS 2],false⟩:=aV Ys [oS 2] Yr func103 (by kernel_rfl) (lB (Yp (z:=z) (y:=y) (g:=q) (Rw.To 2 (If z k) n0 (fun _ _ _ _ h=>h)) (Rw.To 2 (If y k1) n1 (fun _ _ _ _ h=>h)) rfl hn0 hn1 hk hk1 hK hz0 hzt hy0 hyt na hg0 hzg hgb) au)
  (aK [.fact 0 (.one (.s)),.fact 1 (.one (.s))] ⟨Rw.Is 2 (If z k) n0,Rw.Is 2 (If y k1) n1,trivial⟩) bg
section
variable {Φ:PH}{p q x n0 n1 kg:Nat}{y g:Nat->Int}
theorem Yu (hp:∀w v,Φ p w v->Rw 2 (If z k) n0 w v) (hq:∀w v,Φ q w v->Rw 2 (If y k1) n1 w v) (hx:Φ x=Rw 2 (Nf g kg) (n0+1-n1)) (hn0:n0<=1000) (hn1:n1<=1000) (hk:∀i,Bd (z i).natAbs k) (hk1:∀i,Bd (y i).natAbs k1) (hK:k+(n0+1)*(k1+1)<=90000)
  (hz0:∀i,n0<=i->z i=0) (hzt:tl z n0=n0) (hy0:∀i,n1<=i->y i=0) (hyt:tl y n1=n1) (na:0<n1) (hg0:∀i,n0+1-n1<=i->g i=0) (hzg:∀i,z i=conv g y i) (hgb:∀i,Bd (g i).natAbs kg) :
  aj Φ prog ⟨103,[.fact p,.fact q],[oS x],false⟩:=
 aW (Yt hn0 hn1 hk hk1 hK hz0 hzt hy0 hyt na hg0 hzg hgb) ⟨hp,hq,trivial⟩ ⟨⟨rfl,⟨rfl,rfl,fun _ _ h=>hx▸h⟩,trivial⟩,trivial⟩
end
theorem iL {w:World}{v:Value} (h:Rw 2 (If z k) n w v) (hk:k<=K:=by omega):Rw 2 (If z K) n w v:=h.to fun _ _ _ _ h=>h.more hk
theorem xO  (h:Vz s):tl s.1 s.2=s.2:=jG fun h0=>by have:=(h.2 h0).1;omega
section
variable {Φ:PH}{p p0 p1 p2 x j n0 n1 n2:Nat}{z0 z1 z2:Nat->Int}
theorem ow {J:List Nat} (h0:∀w v,Φ p0 w v->Rw 2 (If z0 k) n0 w v) (h1:∀w v,Φ p1 w v->Rw 2 (If z1 k) n1 w v) (hx:Φ x=Rw 1 (bS (fI z0 z1 z1) (fI n0 n1 n1) k) 2) :
  aj Φ prog ⟨0,[.any,.fact p0,.fact p1],[oS x],.fresh J (dq 59 2)⟩:=
 jF (ps:=[p0,p1]) (sz:=1) (zc:=.one .nl) underlying59 rfl (fun i p h w v hv=>by
  match i,h with
  | 0,h=>
   obtain rfl:=Option.some.inj h
   exact ⟨by rw [gZ (h0 w v hv)];rfl,v,by rw [gZ (h0 w v hv)],h0 w v hv⟩
  | 1,h=>
   obtain rfl:=Option.some.inj h
   exact ⟨by rw [gZ (h1 w v hv)];rfl,v,by rw [gZ (h1 w v hv)],h1 w v hv⟩
  | i+2,h=>simp at h) hx
theorem Yw  (h:t.2<=1000):gi (fun _=>0,0) t k2 k:=⟨Nat.zero_le _,h,fun h=>absurd h (by dsimp only;omega)⟩
theorem xP (hp:∀w v,Φ p w v->Rw 1 (bS (fI z0 z1 z2) (fI n0 n1 n2) k) 2 w v) (hx:Φ x=Rw 2 (Nf ((cmn (pri z0 n0) (pri z1 n1)).1) k2) (cmn (pri z0 n0) (pri z1 n1)).2) (hB0:∀i,Bd ((pri z0 n0).1 i).natAbs k2) (hBc:∀i,Bd ((cmn (pri z0 n0) (pri z1 n1)).1 i).natAbs k2) (hC:gi (pri z0 n0) (pri z1 n1) k2 k) (h0:n0<=1000:=by omega) (h1:n1<=1000:=by omega) (hk:k<=100:=by omega) :
  aj Φ prog ⟨11,[.fact p],[oS x],false⟩:=
 Yd (c:=cmn (pri z0 n0) (pri z1 n1)) hp hx hk (fun i hi=>by
  match i,hi with
  | 0,_=>exact h0
  | 1,_=>exact h1) (fun j hj i=>by
  match j,hj with
  | 0,_=>exact Nat.pow_pos (by omega)
  | 1,_=>exact hB0 i
  | 2,_=>exact hBc i) (fun j hj=>by
  match j,hj with
  | 0,_=>exact Yw (Nat.le_trans (aL _ _) h0)
  | 1,_=>exact hC) rfl
end
def Yx (a b:Nat->Int) (la lb ka kb k k2:Nat):List WP:=[Rw 2 (If a ka) la,Rw 2 (If b kb) lb,Rw 1 (bS (fI a b b) (fI la lb lb) k) 2,Rw 2 (Nf ((cmn (pri a la) (pri b lb)).1) k2) ((cmn (pri a la) (pri b lb)).2),Ni ((((cmn (pri a la) (pri b lb)).2:Nat):Int)-1)]
def Yy:List Step:=[.base ⟨0,[.any,0,1],[oS 2],.fresh [] (dq 59 2)⟩,.base ⟨11,[2],[oS 3],false⟩,.base ⟨35,[3],[oN 4],false⟩,bQ [4,.lit (.ci .i64 0)] oT (ak .eql)]
def YA:List Out:=[oS 0,oS 1]
theorem Rf  (hla:la<=1000) (hlb:lb<=1000) (hka:ka<=k) (hkb:kb<=k) (hB0:∀i,Bd ((pri a la).1 i).natAbs k2) (hBc:∀i,Bd ((cmn (pri a la) (pri b lb)).1 i).natAbs k2) (hC:gi (pri a la) (pri b lb) k2 k) (_hcl:(cmn (pri a la) (pri b lb)).2<=1000) (hr:(cmn (pri a la) (pri b lb)).2=1) (hk:k<=100:=by omega):aj (ph (Yx a b la lb ka kb k k2)) prog ⟨12,[0,1],oT,false⟩:=aV YA oT Yy func12 (by kernel_rfl) (lB (ow (fun w v h=>iL ((Rw.To 2 (If a ka) la (fun _ _ _ _ h=>h)) w v h)) (fun w v h=>iL ((Rw.To 2 (If b kb) lb (fun _ _ _ _ h=>h)) w v h)) rfl) (lB (xP ad rfl hB0 hBc hC) (lB (kG (n:=(cmn (pri a la) (pri b lb)).2) (fun _ _ h=>Rw.iZ (sz:=2) (F:=(Nf ((cmn (pri a la) (pri b lb)).1) k2)) (n:=(cmn (pri a la) (pri b lb)).2) h) rfl (ht:=(rfl))) (lB (ic ad) au))))
  (aK [.fact 0 (.one (.s)),.fact 1 (.one (.s))] ⟨Rw.Is 2 (If a ka) la,Rw.Is 2 (If b kb) lb,trivial⟩) bg
def YB (a b:Nat->Int) (la lb ka kb k k2:Nat):List WP:=[Rw 2 (If a ka) la,Rw 2 (If b kb) lb,Rw 1 (bS (fI a b b) (fI la lb lb) k) 2,Rw 2 (Nf ((cmn (pri a la) (pri b lb)).1) k2) ((cmn (pri a la) (pri b lb)).2),Ni ((((cmn (pri a la) (pri b lb)).2:Nat):Int)-1)]
def YC:List Step:=[.base ⟨0,[.any,0,1],[oS 2],.fresh [] (dq 59 2)⟩,.base ⟨11,[2],[oS 3],false⟩,.base ⟨35,[3],[oN 4],false⟩,bQ [4,.lit (.ci .i64 0)] oF (ak .eql)]
def YD:List Out:=[oS 0,oS 1]
theorem Rh  (hla:la<=1000) (hlb:lb<=1000) (hka:ka<=k) (hkb:kb<=k) (hB0:∀i,Bd ((pri a la).1 i).natAbs k2) (hBc:∀i,Bd ((cmn (pri a la) (pri b lb)).1 i).natAbs k2) (hC:gi (pri a la) (pri b lb) k2 k) (hcl:(cmn (pri a la) (pri b lb)).2<=1000) (hr:(cmn (pri a la) (pri b lb)).2≠1) (hk:k<=100:=by omega):aj (ph (YB a b la lb ka kb k k2)) prog ⟨12,[0,1],oF,false⟩:=aV YD oF YC func12 (by kernel_rfl) (lB (ow (fun w v h=>iL ((Rw.To 2 (If a ka) la (fun _ _ _ _ h=>h)) w v h)) (fun w v h=>iL ((Rw.To 2 (If b kb) lb (fun _ _ _ _ h=>h)) w v h)) rfl) (lB (xP ad rfl hB0 hBc hC) (lB (kG (n:=(cmn (pri a la) (pri b lb)).2) (fun _ _ h=>Rw.iZ (sz:=2) (F:=(Nf ((cmn (pri a la) (pri b lb)).1) k2)) (n:=(cmn (pri a la) (pri b lb)).2) h) rfl (ht:=(rfl))) (lB (dg ad) au))))
  (aK [.fact 0 (.one (.s)),.fact 1 (.one (.s))] ⟨Rw.Is 2 (If a ka) la,Rw.Is 2 (If b kb) lb,trivial⟩) bg
abbrev kh:Type:=(Nat->Int)×Nat
theorem tG  (h:n<=800:=by omega) (h1:k<=100∧k1<=100:=by omega):k+(n+1)*(k1+1)<=90000:=by
 have:(n+1)*(k1+1)<=801*101:=Nat.mul_le_mul (by omega) (by omega)
 omega
structure YE (a:Nat->Int) (n k kL kR kQ kF:Nat) (L0:Nat->Int) (xQ:Nat) (R0:List Int) (G:(Nat->Int)×Nat) (Q0:Nat->Int) (l0:Nat):Prop where
 hn:n<=800
 hat:tl a n=n
 ha0:∀i,n<=i->a i=0
 hBa:∀i,Bd (a i).natAbs k
 hs0:∀i,n-1<=i->drv a i=0
 hst:tl (drv a) (n-1)=n-1
 hBs:∀i,Bd (drv a i).natAbs (2+k)
 hf:cmn (pri a n) (pri (drv a) (n-1))=G
 hBp:∀i,Bd ((pri a n).1 i).natAbs kF
 hBf:∀i,Bd (G.1 i).natAbs kF
 hC:gi (pri a n) (pri (drv a) (n-1)) kF (2+k)
 hV:Vz G
 hG0:0<G.2
 hGl:G.2<=800
 hLm:n+1-G.2=xQ
 hLq:∀i,a i=conv L0 G.1 i
 hQm:n-1+1-G.2=l0
 hQ0:∀i,l0<=i->Q0 i=0
 hQq:∀i,drv a i=conv Q0 G.1 i
 hBq:∀i,Bd (Q0 i).natAbs kQ
 hl0:l0<=800
 hR:(∀i,Bd (ae R0 i).natAbs kR)->aG (mk (max l0 (xQ-1)) fun i=>upto l0 Q0 i-upto (xQ-1) (drv L0) i)=R0∧∀i,Bd (ae R0 i).natAbs kR
structure YF (k3 kL kR kQ kF:Nat) (L L':Nat->Int) (lL xR:Nat) (R R':List Int) (F:(Nat->Int)×Nat) (Q:Nat->Int) (lQ:Nat):Prop where
 hd:2<=lL
 hf:cmn (pri L lL) (pri (ae R) R.length)=F
 hBp:∀i,Bd ((pri L lL).1 i).natAbs kF
 hBf:∀i,Bd (F.1 i).natAbs kF
 hC:gi (pri L lL) (pri (ae R) R.length) kF k3
 hV:Vz F
 hF0:0<F.2
 hFl:F.2<=800
 hLm:lL+1-F.2=xR
 hLq:∀i,L i=conv L' F.1 i
 hQm:R.length+1-F.2=lQ
 hlQ:lQ<=800
 hQ0:∀i,lQ<=i->Q i=0
 hQq:∀i,ae R i=conv Q F.1 i
 hBq:∀i,Bd (Q i).natAbs kQ
 hR:(∀i,Bd (ae R' i).natAbs kR)->aG (mk (max lQ (xR - 1)) fun i=>upto lQ Q i-upto (xR - 1) (drv L') i)=R'∧∀i,Bd (ae R' i).natAbs kR
structure nf (a:Nat->Int) (n m k k3 kL kR kQ kF:Nat) (Lf Qf:Nat->Nat->Int) (lL lQ:Nat->Nat) (RL:Nat->List Int) (Fz:Nat->(Nat->Int)×Nat) (G:(Nat->Int)×Nat) (Q0:Nat->Int) (l0:Nat):Prop where
 base:YE a n k kL kR kQ kF (Lf 0) (lL 0) (RL 0) G Q0 l0
 rd:∀j,j<m->YF k3 kL kR kQ kF (Lf j) (Lf (j+1)) (lL j) (lL (j+1)) (RL j) (RL (j+1)) (Fz j) (Qf j) (lQ j)
 hm:m<=1000
 hk:k<=98
 hk3:k3<=100
 hkL:kL<=k3
 hkR:kR<=k3
 hkQ:kQ<=1000
 hkF:kF<=100
 hL0:∀j,j<=m->∀i,lL j<=i->Lf j i=0
 hLt:∀j,j<=m->tl (Lf j) (lL j)=lL j
 hLl:∀j,j<=m->lL j<=800
 hBl:∀j,j<=m->∀i,Bd (Lf j i).natAbs kL
 hRt:∀j,j<=m->tl (ae (RL j)) (RL j).length=(RL j).length
 hRl:∀j,j<=m->(RL j).length<=800
 hBr:∀j,j<=m->∀i,Bd (ae (RL j) i).natAbs kR
 YG:lL m<=1
section
variable {Φ:PH}{p q x l n0 kg kR:Nat}{y g z0 z1 z2:Nat->Int}{n1 n2:Nat}{L:List Int}
theorem GP  (hp:Φ p=bS zz ln k n) (hq:∀w v,Φ q w v->Rw 2 (If (zz n) k) (ln n) w v) (Y:Nat->Prop) (w:World) (v:Value) (h:(Arg.parts (.agg [.s]) [(0,1,q)]).ok Φ Y w v):(Arg.fact p).ok Φ Y w v:=fun w1 hw=>by
 rw [hp]
 obtain ⟨⟨vs,rfl,h1⟩,h2⟩:=h
 match vs,h1 with
 | [s],_=>exact ⟨s,rfl,hq _ _ (h2 (0,1,q) (List.mem_singleton.2 rfl) w1 hw)⟩
theorem xT (hp:∀w v,Φ p w v->Rw 2 (If z k) n w v) (hx:Φ x=Rw 2 (Nf (drv z) (2+k)) m) (hm:tl z n-1=m) (hn:n<=1000000:=by omega) (hk:k<=100000:=by omega):aj Φ prog ⟨102,[.fact p],[oS x],false⟩:=by
 subst hm
 exact Yo hp hx hn hk
theorem sP (hp:∀w v,Φ p w v->Rw 1 (bS (fI z0 z1 z2) (fI n0 n1 n2) k) 2 w v) (hx:Φ x=Rw 2 (Nf c.1 k2) c.2) (hB0:∀i,Bd ((pri z0 n0).1 i).natAbs k2) (hBc:∀i,Bd (c.1 i).natAbs k2) (hC:gi (pri z0 n0) (pri z1 n1) k2 k) (hc:cmn (pri z0 n0) (pri z1 n1)=c) (h0:n0<=1000:=by omega) (h1:n1<=1000:=by omega) (hk:k<=100:=by omega) :
  aj Φ prog ⟨11,[.fact p],[oS x],false⟩:=by
 subst hc
 exact xP hp hx (h0:=h0) (h1:=h1) (hk:=hk) hB0 hBc hC
theorem tH (hp:∀w v,Φ p w v->Rw 2 (If z k) n0 w v) (hq:∀w v,Φ q w v->Rw 2 (If c.1 k1) c.2 w v) (hx:Φ x=Rw 2 (Nf g kg) m) (hk:∀i,Bd (z i).natAbs k) (hk1:∀i,Bd (c.1 i).natAbs k1) (hK:k+(n0+1)*(k1+1)<=90000)
  (hz0:∀i,n0<=i->z i=0) (hzt:tl z n0=n0) (hV:Vz c) (na:0<c.2) (hm:n0+1-c.2=m) (hg0:∀i,m<=i->g i=0) (hzg:∀i,z i=conv g c.1 i) (hgb:∀i,Bd (g i).natAbs kg) (hn0:n0<=1000:=by omega) (hn1:c.2<=1000:=by omega) :
  aj Φ prog ⟨103,[.fact p,.fact q],[oS x],false⟩:=by
 subst hm
 exact Yu hp hq hx hn0 hn1 hk hk1 hK hz0 hzt hV.1 (xO hV) na hg0 hzg hgb
theorem GQ (hp:∀w v,Φ p w v->Rw 2 (If z k) n w v) (hq:∀w v,Φ q w v->Rw 2 (If y l) m w v) (hx:Φ x=Rw 2 (Nf (ae L) kR) L.length)
  (hL:aG (mk (max n m) fun i=>upto n z i-upto m y i)=L∧∀i,Bd (ae L i).natAbs kR) (hn:n<=1000000:=by omega) (hm:m<=1000000:=by omega) (hk:k<=200000:=by omega) (hl:l<=200000:=by omega):aj Φ prog ⟨104,[.fact p,.fact q],[oS x],false⟩:=by
 refine aW (YH (Φ:=ph [Rw 2 (If z k) n,Rw 2 (If y l) m,Rw 2 (Nf (ae L) (k+l+1)) L.length]) (p:=0) (q:=1) (x:=2) (z:=z) (y:=y) (n:=n) (m:=m) (k:=k) (l:=l) (L:=L) ad ad rfl hn hm hk hl hL.1) ⟨hp,hq,trivial⟩ ⟨⟨rfl,⟨rfl,rfl,fun w v h=>?_⟩,trivial⟩,trivial⟩
 have h':Rw 2 (Nf (ae L) (k+l+1)) L.length w v:=h
 rw [hx]
 exact h'.to fun i w v hi h=>ai.re h (hL.2 i)
end
def xU (a:Nat->Int) (n m k kL kR kQ kF:Nat) (Lf:Nat->Nat->Int) (lL:Nat->Nat) (RL:Nat->List Int) (Fz:Nat->kh) (G:kh) (Q0:Nat->Int) (l0:Nat):List WP:=[Rw 2 (If a k) n,Rw 2 (Nf (drv a) (2+k)) (n-1),Rw 1 (bS (fI a (drv a) (drv a)) (fI n (n-1) (n-1)) (2+k)) 2,Rw 2 (Nf G.1 kF) G.2,Rw 2 (Nf (Lf 0) kL) (lL 0),Rw 2 (Nf Q0 kQ) l0,Rw 2 (Nf (drv (Lf 0)) (2+kL)) (lL 0-1),Rw 2 (Nf (ae (RL 0)) kR) ((RL 0).length),dY 28 (fun i=>(Fz i).1) (fun i=>(Fz i).2) kF m]
def YI (m k3 kL kR kQ kF:Nat) (Lf Qf:Nat->Nat->Int) (lL lQ:Nat->Nat) (RL:Nat->List Int) (Fz:Nat->kh) (j:Nat):List WP:=[dY 28 (fun i=>(Fz i).1) (fun i=>(Fz i).2) kF j,fun _ _=>True,Rw 2 (Nf (Lf j) kL) (lL j),Rw 2 (Nf (ae (RL j)) kR) ((RL j).length),Ni ((((lL j):Nat):Int)-1),Rw 1 (bS (fI (Lf j) (ae (RL j)) (ae (RL j))) (fI (lL j) ((RL j).length) ((RL j).length)) k3) 2,Rw 2 (Nf ((Fz j).1) kF) ((Fz j).2),bS (fun i=>(Fz i).1) (fun i=>(Fz i).2) kF j,dY 28 (fun i=>(Fz i).1) (fun i=>(Fz i).2) kF (j+1),fun w v=>Rw 2 (fun ι w v=>ai w v ((Lf (j+1)) ι) kL) (lL (j+1)) w v,Rw 2 (Nf (Qf j) kQ) (lQ j),fun w v=>Rw 2 (fun ι w v=>ai w v ((drv (Lf (j+1))) ι) (2+kL)) (lL (j+1)-1) w v,fun w v=>Rw 2 (fun ι w v=>ai w v ((ae (RL (j+1))) ι) kR) ((RL (j+1)).length) w v,Ni ((((lL m):Nat):Int)-1)]
def GS:bf:=⟨[0,2,3,4,9,10,11,12,13,14,15,16,17,18,19,20,21,22,23],[(.slot 7,.s),(.slot 5,.s),(.slot 6,.s)],[(.one 0,.bB [1] 9),(.one 0,.lo 1),(.one 1,11),(.one 2,12)],[.closed (.one (.nl)),.frm 0,.frm 4,.frm 7],9,[(9,8)]⟩
def GT:List Step:=[.base ⟨35,[11],[oN 13],false⟩,bQ [13,.lit (.ci .i64 0)] oT (ak .gtr),.base ⟨0,[.any,11,12],[oS 14],.fresh [] (dq 59 2)⟩,.base ⟨11,[14],[oS 15],false⟩,.derive (.agg [.s 29 0]) (.agg [.s]) [(0,1,15)] 16,.base ⟨0,[9,.row 1 [16]],[oS 17],.loose [] 1 0 (eF 59 59)⟩,.base ⟨103,[11,15],[oS 18],false⟩,.base ⟨103,[12,15],[oS 19],false⟩,.base ⟨102,[18],[oS 20],false⟩,.base ⟨104,[19,20],[oS 21],false⟩]
def YJ:List Step:=[.base ⟨35,[11],[oN 22],false⟩,bQ [22,.lit (.ci .i64 0)] oF (ak .gtr)]
def YK:List Step:=[.base ⟨102,[0],[oS 1],false⟩,.base ⟨0,[.any,0,1],[oS 2],.fresh [] (dq 59 2)⟩,.base ⟨11,[2],[oS 3],false⟩,.base ⟨103,[0,3],[oS 4],false⟩,.base ⟨103,[1,3],[oS 5],false⟩,.base ⟨102,[4],[oS 6],false⟩,.base ⟨104,[5,6],[oS 7],false⟩,.loop GS [(GT,[.frm 17,.frm 0,.frm 18,.frm 21])] YJ]
def YL:List Out:=[oS 0]
theorem YM {k3 kL kR kQ kF:Nat}{Lf Qf:Nat->Nat->Int}{lL lQ:Nat->Nat}{RL:Nat->List Int}{Fz:Nat->kh}{G:kh}{Q0:Nat->Int}{l0:Nat} (H:nf a n m k k3 kL kR kQ kF Lf Qf lL lQ RL Fz G Q0 l0):aj (ph (xU a n m k kL kR kQ kF Lf lL RL Fz G Q0 l0)) prog ⟨69,[0],[oS 8],false⟩:=by
 have B0:=H.base;have hk:=H.hk;have hk3:=H.hk3;have hkL:=H.hkL;have hkR:=H.hkR;have hkQ:=H.hkQ;have hkF:=H.hkF;have hnn:=B0.hn;have hG0:=B0.hG0;have hGl:=B0.hGl;have h00:=H.hLl 0 (Nat.zero_le m);have h01:=H.hRl 0 (Nat.zero_le m);have WM:=B0.hl0;have hmm:=H.hm
 exact aV YL [oS 8] YK func69 (by kernel_rfl) (lB (xT (z:=a) (n:=n) (k:=k) (Rw.To 2 (fun ι w v=>aE w v (a ι) k) n (fun _ _ _ _ h=>h)) rfl (by rw [B0.hat])) (lB (ow (fun w v h=>iL ((Rw.To 2 (If a k) n (fun _ _ _ _ h=>h)) w v h)) (fun w v h=>iL ((Rw.To 2 (Nf (drv a) (2+k)) (n-1) (fun _ _ _ _ h=>ai.i h)) w v h)) rfl) (lB (sP ad rfl B0.hBp B0.hBf B0.hC B0.hf) (lB (tH (g:=(Lf 0)) (z:=a) (n0:=n) (k:=k) (c:=G) (k1:=kF) (m:=(lL 0)) (Rw.To 2 (If a k) n (fun _ _ _ _ h=>h)) (Rw.To 2 (Nf G.1 kF) G.2 (fun _ _ _ _ h=>ai.i h)) rfl B0.hBa B0.hBf (tG) B0.ha0 B0.hat B0.hV B0.hG0 B0.hLm (H.hL0 0 (Nat.zero_le m)) B0.hLq (H.hBl 0 (Nat.zero_le m))) (lB (tH (g:=Q0) (z:=(drv a)) (n0:=(n-1)) (k:=(2+k)) (c:=G) (k1:=kF) (m:=l0) (Rw.To 2 (Nf (drv a) (2+k)) (n-1) (fun _ _ _ _ h=>ai.i h)) (Rw.To 2 (Nf G.1 kF) G.2 (fun _ _ _ _ h=>ai.i h)) rfl B0.hBs B0.hBf (tG) B0.hs0 B0.hst B0.hV B0.hG0 B0.hQm B0.hQ0 B0.hQq B0.hBq) (lB (xT (z:=(Lf 0)) (n:=(lL 0)) (k:=kL) (Rw.To 2 (fun ι w v=>ai w v ((Lf 0) ι) kL) (lL 0) (fun _ _ _ _ h=>ai.i h)) rfl (by rw [H.hLt 0 (Nat.zero_le m)])) (lB (GQ (p:=5) (q:=6) (z:=Q0) (n:=l0) (k:=kQ) (y:=(drv (Lf 0))) (m:=(lL 0-1)) (l:=(2+kL)) (Rw.To 2 (Nf Q0 kQ) l0 (fun _ _ _ _ h=>ai.i h)) (Rw.To 2 (Nf (drv (Lf 0)) (2+kL)) (lL 0-1) (fun _ _ _ _ h=>ai.i h)) rfl (B0.hR (H.hBr 0 (Nat.zero_le m)))) (bk (counted m (fun j=>ph (xU a n m k kL kR kQ kF Lf lL RL Fz G Q0 l0 ++ YI m k3 kL kR kQ kF Lf Qf lL lQ RL Fz j)) (fun _=>0) (fun j p hp=>bm (show p<(xU a n m k kL kR kQ kF Lf lL RL Fz G Q0 l0).length from hp)) ⟨fun w=>dY.nil 28 (fun i=>(Fz i).1) (fun i=>(Fz i).2) kF w,aP,ad,ad,trivial⟩ (fun j hj=>by
   have R:=H.rd j hj;have h1:=H.hLl j (by omega);have h2:=H.hLl (j+1) (by omega);have h3:=H.hRl j (by omega);have h4:=H.hRl (j+1) (by omega);have h5:=R.hd;have h6:=R.hFl;have h7:=R.hQm;have h8:=R.hF0;have h9:=R.hlQ
   exact ⟨(GT,[.frm 17,.frm 0,.frm 18,.frm 21]),rfl,⟨ad,aP,ad,ad,trivial⟩,(lB (kG (n:=(lL j)) (fun _ _ h=>Rw.iZ (sz:=2) (F:=(Nf (Lf j) kL)) (n:=(lL j)) h) rfl (ht:=(rfl))) (lB (eX ad) (lB (ow (fun w v h=>iL ((Rw.To 2 (Nf (Lf j) kL) (lL j) (fun _ _ _ _ h=>ai.i h)) w v h)) (fun w v h=>iL ((Rw.To 2 (Nf (ae (RL j)) kR) ((RL j).length) (fun _ _ _ _ h=>ai.i h)) w v h)) rfl) (lB (sP ad rfl R.hBp R.hBf R.hC R.hf) (ej (GP (zz:=fun i=>(Fz i).1) (ln:=fun i=>(Fz i).2) (k:=kF) (n:=j) rfl (Rw.To 2 (Nf ((Fz j).1) kF) ((Fz j).2) (fun _ _ _ _ h=>ai.i h))) (lB (GU (n:=j) (k:=kF) (zz:=fun i=>(Fz i).1) (ln:=fun i=>(Fz i).2) ad ad (by omega) rfl) (lB (tH (g:=(Lf (j+1))) (z:=(Lf j)) (n0:=(lL j)) (k:=kL) (c:=(Fz j)) (k1:=kF) (m:=(lL (j+1))) (Rw.To 2 (Nf (Lf j) kL) (lL j) (fun _ _ _ _ h=>ai.i h)) (Rw.To 2 (Nf ((Fz j).1) kF) ((Fz j).2) (fun _ _ _ _ h=>ai.i h)) rfl (H.hBl j (by omega)) R.hBf (tG) (H.hL0 j (by omega)) (H.hLt j (by omega)) R.hV R.hF0 R.hLm (H.hL0 (j+1) (by omega)) R.hLq (H.hBl (j+1) (by omega))) (lB (tH (g:=(Qf j)) (z:=(ae (RL j))) (n0:=(RL j).length) (k:=kR) (c:=(Fz j)) (k1:=kF) (m:=(lQ j)) (Rw.To 2 (Nf (ae (RL j)) kR) ((RL j).length) (fun _ _ _ _ h=>ai.i h)) (Rw.To 2 (Nf ((Fz j).1) kF) ((Fz j).2) (fun _ _ _ _ h=>ai.i h)) rfl (H.hBr j (by omega)) R.hBf (tG) (fun i hi=>ep hi) (H.hRt j (by omega)) R.hV R.hF0 R.hQm R.hQ0 R.hQq R.hBq) (lB (xT (z:=(Lf (j+1))) (n:=(lL (j+1))) (k:=kL) (Rw.To 2 (fun ι w v=>ai w v ((Lf (j+1)) ι) kL) (lL (j+1)) (fun _ _ _ _ h=>ai.i h)) rfl (by rw [H.hLt (j+1) (by omega)])) (lB (GQ (p:=19) (q:=20) (z:=(Qf j)) (n:=(lQ j)) (k:=kQ) (y:=(drv (Lf (j+1)))) (m:=(lL (j+1)-1)) (l:=(2+kL)) (Rw.To 2 (Nf (Qf j) kQ) (lQ j) (fun _ _ _ _ h=>ai.i h)) (Rw.To 2 (fun ι w v=>ai w v ((drv (Lf (j+1))) ι) (2+kL)) (lL (j+1)-1) (fun _ _ _ _ h=>ai.i h)) rfl (R.hR (H.hBr (j+1) (by omega)))) au))))))))))⟩)
   (by
   have hl1:=H.YG;have hl2:=H.hLl m (Nat.le_refl m)
   exact (lB (kG (n:=(lL (m))) (fun _ _ h=>Rw.iZ (sz:=2) (F:=(Nf (Lf (m)) kL)) (n:=(lL (m))) h) rfl (ht:=(rfl))) (lB (kC ad) au)))
   (fun q hq w v h=>by
    simp only [GS,List.mem_cons,List.not_mem_nil,or_false] at hq
    rcases hq with rfl
    ·exact (fun h=>h) h)) au))))))))
  (aK [.fact 0 (.one (.s))] ⟨Rw.Is 2 (If a k) n,trivial⟩) bg
section
variable {Φ:PH}{p x k3 kL kR kQ kF l0:Nat}{Q0:Nat->Int}{Lf Qf:Nat->Nat->Int}{lL lQ:Nat->Nat}{RL:Nat->List Int}{Fz:Nat->(Nat->Int)×Nat}{G:(Nat->Int)×Nat}
theorem YN (hp:∀w v,Φ p w v->Rw 2 (If a k) n w v) (hx:Φ x=Rw 1 (bS (fun i=>(Fz i).1) (fun i=>(Fz i).2) kF) m) (H:nf a n m k k3 kL kR kQ kF Lf Qf lL lQ RL Fz G Q0 l0) :
  aj Φ prog ⟨69,[.fact p],[oS x],false⟩:=
 aW (YM H) ⟨hp,trivial⟩ ⟨⟨rfl,⟨rfl,rfl,fun _ _ h=>hx▸dY.rw (e:=28) h⟩,trivial⟩,trivial⟩
end
end Go.Proofs.YtomamliepbhegaaGreat.Sym
