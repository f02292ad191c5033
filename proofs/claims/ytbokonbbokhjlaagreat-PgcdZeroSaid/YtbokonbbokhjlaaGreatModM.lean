/- common, Gcd. Derive; Exact as a quotient. Rows of polynomials; Gcd of one and two; Coprime, Square. Factors, by what each of its rounds leaves. -/
import Derived.Test.YtbokonbbokhjlaaGreatModI
import Derived.Test.YtbokonbbokhjlaaGreatPolP
import Derived.Test.YtbokonbbokhjlaaGreatRowP
set_option maxRecDepth 100000
namespace Go.Proofs.YtbokonbbokhjlaaGreat.Sym
open Go.RowKit
def P2 (a b:Nat->Int) (la lb ka kb:Nat):List WP:=[Rw 2 (Nf a ka) la,Rw 2 (Nf b kb) lb,Nz la]
def P3:List Step:=[bQ [.fact 0] [oN 2] (aD 28),
   bQ [.fact 2,.lit (.ci .i64 0)] oT (ak .eql)]
def P4:List Out:=[oS 0,oS 1]
theorem P5 {a b:Nat->Int}{la lb ka kb:Nat} (_hla:la<=1000) (_hlb:lb<=1000) (h1:la=0):ai (ph (P2 a b la lb ka kb)) Tryz.prog ⟨48,[.fact 0,.fact 1],[oS 1],false⟩:=by
 skip
 exact aV P4 [oS 1] P3 Tryz.func48 (by kernel_rfl)
  (lB (aP (F:=(Nf a ka)) Tryz.underlying28 ad rfl)
   (lB (jK ad)
   aw))
  (aL [.fact 0 (.one (.s)),.fact 1 (.one (.s))] ⟨Rw.Is 2 (Nf a ka) la,Rw.Is 2 (Nf b kb) lb,trivial⟩) bc
def P6 (a b:Nat->Int) (la lb ka kb:Nat):List WP:=[Rw 2 (Nf a ka) la,Rw 2 (Nf b kb) lb,Nz la,Nz lb]
def P7:List Step:=[bQ [.fact 0] [oN 2] (aD 28),
   bQ [.fact 2,.lit (.ci .i64 0)] oF (ak .eql),
   bQ [.fact 1] [oN 3] (aD 28),
   bQ [.fact 3,.lit (.ci .i64 0)] oT (ak .eql)]
def P8:List Out:=[oS 0,oS 1]
theorem P9 {a b:Nat->Int}{la lb ka kb:Nat} (_hla:la<=1000) (_hlb:lb<=1000) (h1:la≠0) (h2:lb=0):ai (ph (P6 a b la lb ka kb)) Tryz.prog ⟨48,[.fact 0,.fact 1],[oS 0],false⟩:=by
 skip
 exact aV P8 [oS 0] P7 Tryz.func48 (by kernel_rfl)
  (lB (aP (F:=(Nf a ka)) Tryz.underlying28 ad rfl)
   (lB (dO ad)
   (lB (aP (F:=(Nf b kb)) Tryz.underlying28 ad rfl)
   (lB (jK ad)
   aw))))
  (aL [.fact 0 (.one (.s)),.fact 1 (.one (.s))] ⟨Rw.Is 2 (Nf a ka) la,Rw.Is 2 (Nf b kb) lb,trivial⟩) bc
def Qa (a b:Nat->Int) (la lb ka kb:Nat):List WP:=[Rw 2 (Nf a ka) la,Rw 2 (Nf b kb) lb,Nz la,Nz lb,Nz la,Ni 1,fun w v=>Rw 1 (fun i _ v=>v = .agg #[.int .i64 ((fun _=>1) i)]) 1 w v,Rw 2 (Nf (ae [1]) 2) (([1]:List Int).length)]
def Qb:List Step:=[bQ [.fact 0] [oN 2] (aD 28),
   bQ [.fact 2,.lit (.ci .i64 0)] oF (ak .eql),
   bQ [.fact 1] [oN 3] (aD 28),
   bQ [.fact 3,.lit (.ci .i64 0)] oF (ak .eql),
   bQ [.fact 0] [oN 4] (aD 28),
   bQ [.fact 4,.lit (.ci .i64 1)] oT (ak .eql),
   .derive (.one (.ci .i64 1)) (.one (.lit (.ci .i64 1))) [] 5,
   .base ⟨0,[.any,.fact 5],[oS 6],.loose [] 2 0 (cj 22 1)⟩,
   .base ⟨27,[.fact 6],[oS 7],.cE [2] false⟩]
def Qc:List Out:=[oS 0,oS 1]
theorem Qd {a b:Nat->Int}{la lb ka kb:Nat} (_hla:la<=1000) (_hlb:lb<=1000) (h1:la=1) (h2:lb≠0):ai (ph (Qa a b la lb ka kb)) Tryz.prog ⟨48,[.fact 0,.fact 1],[oS 7],false⟩:=by
 skip
 exact aV Qc [oS 7] Qb Tryz.func48 (by kernel_rfl)
  (lB (aP (F:=(Nf a ka)) Tryz.underlying28 ad rfl)
   (lB (dO ad)
   (lB (aP (F:=(Nf b kb)) Tryz.underlying28 ad rfl)
   (lB (dO ad)
   (lB (aP (F:=(Nf a ka)) Tryz.underlying28 ad rfl)
   (lB (jK ad)
   (ec (ij rfl)
   (lB (qR (a:=1) ad rfl)
   (lB (de [2] (gO (z:=fun _=>1) (n:=1) (zs:=[1]) ad rfl (by omega) (fun _=>⟨by decide,by decide⟩) (by decide)))
   aw)))))))))
  (aL [.fact 0 (.one (.s)),.fact 1 (.one (.s))] ⟨Rw.Is 2 (Nf a ka) la,Rw.Is 2 (Nf b kb) lb,trivial⟩) bc
def Qe (a b:Nat->Int) (la lb ka kb:Nat):List WP:=[Rw 2 (Nf a ka) la,Rw 2 (Nf b kb) lb,Nz la,Nz lb,Nz la,Nz lb,Ni 1,fun w v=>Rw 1 (fun i _ v=>v = .agg #[.int .i64 ((fun _=>1) i)]) 1 w v,Rw 2 (Nf (ae [1]) 2) (([1]:List Int).length)]
def Qg:List Step:=[bQ [.fact 0] [oN 2] (aD 28),
   bQ [.fact 2,.lit (.ci .i64 0)] oF (ak .eql),
   bQ [.fact 1] [oN 3] (aD 28),
   bQ [.fact 3,.lit (.ci .i64 0)] oF (ak .eql),
   bQ [.fact 0] [oN 4] (aD 28),
   bQ [.fact 4,.lit (.ci .i64 1)] oF (ak .eql),
   bQ [.fact 1] [oN 5] (aD 28),
   bQ [.fact 5,.lit (.ci .i64 1)] oT (ak .eql),
   .derive (.one (.ci .i64 1)) (.one (.lit (.ci .i64 1))) [] 6,
   .base ⟨0,[.any,.fact 6],[oS 7],.loose [] 2 0 (cj 22 1)⟩,
   .base ⟨27,[.fact 7],[oS 8],.cE [2] false⟩]
def Qh:List Out:=[oS 0,oS 1]
theorem Qi {a b:Nat->Int}{la lb ka kb:Nat} (_hla:la<=1000) (_hlb:lb<=1000) (h1:la≠0) (h2:lb=1) (h3:la≠1):ai (ph (Qe a b la lb ka kb)) Tryz.prog ⟨48,[.fact 0,.fact 1],[oS 8],false⟩:=by
 skip
 exact aV Qh [oS 8] Qg Tryz.func48 (by kernel_rfl)
  (lB (aP (F:=(Nf a ka)) Tryz.underlying28 ad rfl)
   (lB (dO ad)
   (lB (aP (F:=(Nf b kb)) Tryz.underlying28 ad rfl)
   (lB (dO ad)
   (lB (aP (F:=(Nf a ka)) Tryz.underlying28 ad rfl)
   (lB (dO ad)
   (lB (aP (F:=(Nf b kb)) Tryz.underlying28 ad rfl)
   (lB (jK ad)
   (ec (ij rfl)
   (lB (qR (a:=1) ad rfl)
   (lB (de [2] (gO (z:=fun _=>1) (n:=1) (zs:=[1]) ad rfl (by omega) (fun _=>⟨by decide,by decide⟩) (by decide)))
   aw)))))))))))
  (aL [.fact 0 (.one (.s)),.fact 1 (.one (.s))] ⟨Rw.Is 2 (Nf a ka) la,Rw.Is 2 (Nf b kb) lb,trivial⟩) bc
def Qj (a b G:Nat->Int) (la lb ka kb d:Nat):List WP:=[Rw 2 (Nf a ka) la,Rw 2 (Nf b kb) lb,Nz la,Nz lb,Nz la,Nz lb,Rw 2 (Nf G 257) (d+1)]
def Qk:List Step:=[bQ [.fact 0] [oN 2] (aD 28),
   bQ [.fact 2,.lit (.ci .i64 0)] oF (ak .eql),
   bQ [.fact 1] [oN 3] (aD 28),
   bQ [.fact 3,.lit (.ci .i64 0)] oF (ak .eql),
   bQ [.fact 0] [oN 4] (aD 28),
   bQ [.fact 4,.lit (.ci .i64 1)] oF (ak .eql),
   bQ [.fact 1] [oN 5] (aD 28),
   bQ [.fact 5,.lit (.ci .i64 1)] oF (ak .eql),
   .base ⟨87,[.fact 0,.fact 1],[oS 6],false⟩]
def Ql:List Out:=[oS 0,oS 1]
theorem Qm {a b G:Nat->Int}{la lb ka kb K u t d:Nat} (hla:la<=1000) (hlb:lb<=1000) (h1:la≠0) (h2:lb≠0) (h3:la≠1) (h4:lb≠1) (hs:Vz (a,la)) (hz:Vz (b,lb)) (hka:ka<=100) (hkb:kb<=100) (hsz:(la+lb+1)*258<=80000) (hba:∀i,Bd (a i).natAbs ka) (hbb:∀i,Bd (b i).natAbs kb)
  (hG:(gcS (a,la) (b,lb) (eG (a,la) (b,lb))).1.1=G) (hd:(gcS (a,la) (b,lb) (eG (a,la) (b,lb))).1.2=d+1) (hA:∀i,(a i).natAbs<=K) (hB:∀i,(b i).natAbs<=K) (hKu:K+(2*(la+lb)*K) ^ (la+lb)<2147000000 ^ (u+1)) (hKv:2*(K*(K+(2*(la+lb)*K) ^ (la+lb)))+1<=2147000000 ^ t) (hv:0<t) (huv:t+u+t<256):ai (ph (Qj a b G la lb ka kb d)) Tryz.prog ⟨48,[.fact 0,.fact 1],[oS 6],false⟩:=by
 skip
 exact aV Ql [oS 6] Qk Tryz.func48 (by kernel_rfl)
  (lB (aP (F:=(Nf a ka)) Tryz.underlying28 ad rfl)
   (lB (dO ad)
   (lB (aP (F:=(Nf b kb)) Tryz.underlying28 ad rfl)
   (lB (dO ad)
   (lB (aP (F:=(Nf a ka)) Tryz.underlying28 ad rfl)
   (lB (dO ad)
   (lB (aP (F:=(Nf b kb)) Tryz.underlying28 ad rfl)
   (lB (dO ad)
   (lB (P1 (a:=a) (b:=b) (G:=G) (K:=K) (u:=u) (v:=t) (d:=d) (Rw.To 2 (Nf a ka) la (fun _ _ _ _ h=>af.i h)) (Rw.To 2 (Nf b kb) lb (fun _ _ _ _ h=>af.i h)) rfl hs hz (by omega) (by omega) (by omega) (by omega) (by omega) (by omega) (by omega) hba hbb hG hd hA hB hKu hKv hv huv)
   aw)))))))))
  (aL [.fact 0 (.one (.s)),.fact 1 (.one (.s))] ⟨Rw.Is 2 (Nf a ka) la,Rw.Is 2 (Nf b kb) lb,trivial⟩) bc
def fZ (s t:(Nat->Int)×Nat) (ka kb:Nat):Prop:=s.2<=1000∧t.2<=1000∧(2<=s.2->2<=t.2->ka<=100∧kb<=100∧(s.2+t.2+1)*258<=80000∧(∀i,Bd (s.1 i).natAbs ka)∧(∀i,Bd (t.1 i).natAbs kb) ∧
 ∃K u v:Nat,(∀i,(s.1 i).natAbs<=K)∧(∀i,(t.1 i).natAbs<=K) ∧ 
  K+(2*(s.2+t.2)*K) ^ (s.2+t.2)<2147000000 ^ (u+1)∧2*(K*(K+(2*(s.2+t.2)*K) ^ (s.2+t.2)))+1<=2147000000 ^ v∧0<v∧v+u+v<256)
section
variable {Φ:PH}{p q x ka kb kc:Nat}
theorem Qn {s t c:(Nat->Int)×Nat} (hp:∀w v,Φ p w v->Rw 2 (Nf s.1 ka) s.2 w v) (hq:∀w v,Φ q w v->Rw 2 (Nf t.1 kb) t.2 w v) (hx:Φ x=Rw 2 (Nf c.1 kc) c.2)
  (hs:Vz s) (ht:Vz t) (hc:cmn s t=c) (hB:∀i,Bd (c.1 i).natAbs kc) (hC:fZ s t ka kb):ai Φ Tryz.prog ⟨48,[.fact p,.fact q],[oS x],false⟩:=by
 obtain ⟨a,la⟩:=s
 obtain ⟨b,lb⟩:=t
 obtain ⟨hla,hlb,hC⟩:=hC
 dsimp only at hla hlb hp hq hC
 by_cases h1:la=0
 ·have hc':c=(b,lb):=by rw [<- hc,cmn];exact if_pos h1
  subst hc'
  refine aW (P5 (a:=a) (b:=b) (ka:=ka) (kb:=kb) hla hlb h1) ⟨hp,hq,trivial⟩ ⟨⟨rfl,⟨rfl,rfl,fun w v h=>?_⟩,trivial⟩,trivial⟩
  have h':Rw 2 (Nf b kb) lb w v:=h
  rw [hx]
  exact h'.to fun i w v hi h=>af.re h (hB i)
 by_cases h2:lb=0
 ·have hc':c=(a,la):=by rw [<- hc,cmn];exact (if_neg h1).trans (if_pos h2)
  subst hc'
  refine aW (P9 (a:=a) (b:=b) (ka:=ka) (kb:=kb) hla hlb h1 h2) ⟨hp,hq,trivial⟩ ⟨⟨rfl,⟨rfl,rfl,fun w v h=>?_⟩,trivial⟩,trivial⟩
  have h':Rw 2 (Nf a ka) la w v:=h
  rw [hx]
  exact h'.to fun i w v hi h=>af.re h (hB i)
 have one:∀w v,la=1∨lb=1->Rw 2 (Nf (ae [1]) 2) 1 w v->Φ x w v:=fun w v h3 h=>by
  have hc':c=(fun i=>if i=0 then 1 else 0,1):=by rw [<- hc,cmn];exact (if_neg h1).trans ((if_neg h2).trans (if_pos h3))
  subst hc'
  rw [hx]
  refine h.to fun i w v hi h=>?_
  obtain rfl:i=0:=by omega
  exact af.re h (hB 0)
 by_cases h3:la=1
 ·exact aW (Qd (a:=a) (b:=b) (ka:=ka) (kb:=kb) hla hlb h3 h2) ⟨hp,hq,trivial⟩ ⟨⟨rfl,⟨rfl,rfl,fun w v h=>one w v (.inl h3) h⟩,trivial⟩,trivial⟩
 by_cases h4:lb=1
 ·exact aW (Qi (a:=a) (b:=b) (ka:=ka) (kb:=kb) hla hlb h1 h4 h3) ⟨hp,hq,trivial⟩ ⟨⟨rfl,⟨rfl,rfl,fun w v h=>one w v (.inr h4) h⟩,trivial⟩,trivial⟩
 have hc':c=cR (a,la) (b,lb):=by rw [<- hc,cmn];exact (if_neg h1).trans ((if_neg h2).trans (if_neg (by omega)))
 obtain ⟨hka,hkb,hsz,hba,hbb,K,u,v,hA,hB',hKu,hKv,hv,huv⟩:=hC (by omega) (by omega)
 obtain ⟨d,hd⟩:∃d,(cR (a,la) (b,lb)).2=d+1:=⟨(cR (a,la) (b,lb)).2-1,by
  have:=(yW hs ht (show 0<lb by omega)).1
  unfold cR
  omega⟩
 refine aW (Qm (a:=a) (b:=b) (ka:=ka) (kb:=kb) (G:=(cR (a,la) (b,lb)).1) (d:=d) (K:=K) (u:=u) (t:=v) hla hlb h1 h2 h3 h4 hs ht hka hkb hsz hba hbb rfl hd hA hB' hKu hKv hv huv) ⟨hp,hq,trivial⟩ ⟨⟨rfl,⟨rfl,rfl,fun w v h=>?_⟩,trivial⟩,trivial⟩
 have h':Rw 2 (Nf ((cR (a,la) (b,lb)).1) 257) (d+1) w v:=h
 rw [hx,hc',hd]
 exact h'.to fun i w v hi h=>af.re h (hc'▸hB i)
end
def gcF (zz:Nat->Nat->Int) (ln:Nat->Nat):Nat->(Nat->Int)×Nat
 | 0=>(fun _=>0,0)
 | j+1=>cmn (gcF zz ln j) (pri (zz j) (ln j))
theorem CH:Vz (fun i=>if i=0 then 1 else 0,1):=⟨fun i hi=>if_neg (by dsimp only at hi;omega),fun _=>⟨by show (0:Int)<if 1-1=0 then 1 else 0;decide,fun p hp=>⟨0,fun h=>by
 have h':(p:Int)∣1:=h
 have:=Int.le_of_dvd (by omega) h'
 have:=hp.1
 omega⟩⟩⟩
theorem oz {s t:(Nat->Int)×Nat} (hs:Vz s) (ht:Vz t):Vz (cmn s t):=by
 unfold cmn
 split
 ·exact ht
 ·split
  ·exact hs
  ·split
   ·exact CH
   ·exact yZ hs ht
theorem CI {zz:Nat->Nat->Int}{ln:Nat->Nat}:∀j,Vz (gcF zz ln j)
 | 0=>Jm
 | j+1=>oz (CI j) (dh _ _)
def uQ (zz:Nat->Nat->Int) (ln:Nat->Nat) (n k k2:Nat):List WP:=[Rw 1 (bf zz ln k) n,Nz n,Rw 2 (Nf ((gcF zz ln n).1) k2) ((gcF zz ln n).2)]
def Qo (zz:Nat->Nat->Int) (ln:Nat->Nat) (k k2:Nat) (j:Nat):List WP:=[Nz j,Rw 2 (Nf ((gcF zz ln j).1) k2) ((gcF zz ln j).2),fun w v=>Ptr 1 (fun w v=>∃s,v = .agg #[s]∧Rw 2 (If (zz j) k) (ln j) w s) w v,Rw 2 (If (zz j) k) (ln j),Nw (bS (zz j) (ln j)) k,Rw 2 (Nf ((pri (zz j) (ln j)).1) k) ((pri (zz j) (ln j)).2),fun w v=>Rw 2 (fun ι w v=>af w v ((gcF zz ln (j+1)).1 ι) k2) ((gcF zz ln (j+1)).2) w v,Nz (j+1)]
def CJ:bg:=⟨[0,2,6,7],[(.slot 8,.i),(.slot 3,.s)],[(.one 0,3),(.one 1,4)],[.closed (.one (.ci .i64 0)),.closed (.one (.nl))],3,[(4,2)]⟩
def CK:List Step:=[bQ [.fact 3,.fact 1] oT (ak .lss),
   bQ [.fact 0,.fact 3] [oP 5] (aG 41),
   bQ [.fact 5] [oS 6] (aM 28),
   .base ⟨47,[.fact 6],[oI 7,oS 8],true⟩,
   .base ⟨48,[.fact 4,.fact 8],[oS 9],false⟩,
   bQ [.fact 3,.lit (.ci .i64 1)] [oN 10] (ak .add)]
def Qp:List Step:=[bQ [.fact 3,.fact 1] oF (ak .lss)]
def Qq:List Step:=[bQ [.fact 0] [oN 1] (aD 41),
   .loop CJ [(CK,[.frm 10,.frm 9])] Qp]
def Qr:List Out:=[oS 0]
theorem Qs {zz:Nat->Nat->Int}{ln:Nat->Nat}{n k k2:Nat} (hn:n<=1000) (hk:k<=100) (hln:∀i,i<n->ln i<=1000) (hBd:∀j,j<=n->∀i,Bd ((gcF zz ln j).1 i).natAbs k2) (hC:∀j,j<n->fZ (gcF zz ln j) (pri (zz j) (ln j)) k2 k):ai (ph (uQ zz ln n k k2)) Tryz.prog ⟨15,[.fact 0],[oS 2],false⟩:=by
 skip
 exact aV Qr [oS 2] Qq Tryz.func15 (by kernel_rfl)
  (lB (aP (F:=(bf zz ln k)) Tryz.underlying41 ad rfl)
   (bz (counted n (fun j=>ph (uQ zz ln n k k2 ++ Qo zz ln k k2 j)) (fun _=>0) (fun j p hp=>bB (show p<(uQ zz ln n k k2).length from hp)) ⟨fun _=>rfl,fun w=>Rw.nil 2 (Nf ((gcF zz ln 0).1) k2) w,trivial⟩ (fun j hj=>by
   have h3:=hln j hj
   exact ⟨(CK,[.frm 10,.frm 9]),rfl,⟨ad,ad,trivial⟩,(lB (cU ad ad)
   (lB (bZ (i:=j) (F:=(bf zz ln k)) Tryz.underlying41 (by kernel_rfl) ad ad (by omega) rfl)
   (lB (mj (by kernel_rfl) ad (fun _ _ h=>qU h) rfl)
   (lB (pI (Rw.To 2 (fun ι w v=>aC w v ((zz j) ι) k) (ln j) (fun _ _ _ _ h=>h)) rfl rfl (by omega) (by omega) rfl (by rw [dvL,iG];rfl))
   (lB (Qn (s:=gcF zz ln j) (t:=pri (zz j) (ln j)) ad ad rfl (CI j) (dh _ _) rfl (hBd (j+1) (by omega)) (hC j hj))
   (lB (cN ad (by omega) rfl (by omega) (by omega))
   aw))))))⟩)
   (lB (tlF ad ad)
   aw)
   (fun q hq w v h=>by
    simp only [CJ,List.mem_cons,List.not_mem_nil,or_false] at hq
    rcases hq with rfl
    ·exact (fun h=>h) h)) aw))
  (aL [.fact 0 (.one (.s))] ⟨Rw.Is 1 (bf zz ln k) n,trivial⟩) bc
section
variable {Φ:PH}{p x n k k2:Nat}{zz:Nat->Nat->Int}{ln:Nat->Nat}
theorem CL {c:(Nat->Int)×Nat} (hp:∀w v,Φ p w v->Rw 1 (bf zz ln k) n w v) (hx:Φ x=Rw 2 (Nf c.1 k2) c.2) (hn:n<=1000) (hk:k<=100) (hln:∀i,i<n->ln i<=1000) (hBd:∀j,j<=n->∀i,Bd ((gcF zz ln j).1 i).natAbs k2)
  (hC:∀j,j<n->fZ (gcF zz ln j) (pri (zz j) (ln j)) k2 k) (hc:gcF zz ln n=c):ai Φ Tryz.prog ⟨15,[.fact p],[oS x],false⟩:=
 aW (Qs hn hk hln hBd hC) ⟨hp,trivial⟩ ⟨⟨rfl,⟨rfl,rfl,fun _ _ h=>hx▸hc▸h⟩,trivial⟩,trivial⟩
end
def drv (z:Nat->Int) (i:Nat):Int:=(((i+1):Nat):Int)*z (i+1)
def Qt (z:Nat->Int) (n k:Nat):List WP:=[Rw 2 (If z k) n,Rw 2 (If z k) (tl z n),Nz (tl z n)]
def Qu:List Step:=[.base ⟨60,[.fact 0],[oS 1],false⟩,
   bQ [.fact 1] [oN 2] (aD 28),
   bQ [.fact 2,.lit (.ci .i64 0)] oT (ak .eql)]
def Qv:List Out:=[oS 0]
theorem Qw {z:Nat->Int}{n k:Nat} (hn:n<=1000000) (hk:k<=100000) (hT:tl z n=0):ai (ph (Qt z n k)) Tryz.prog ⟨30,[.fact 0],[⟨.one (.lit (.nl)),[]⟩],false⟩:=by
 skip
 exact aV Qv [⟨.one (.lit (.nl)),[]⟩] Qu Tryz.func30 (by kernel_rfl)
  (lB (gS (z:=z) (n:=n) (k:=k) (F:=(If z k)) ad bc (fun _ _ _ _ g h=>aC.kp h g) rfl (by omega) (by omega))
   (lB (aP (F:=(If z k)) Tryz.underlying28 ad rfl)
   (lB (jK ad)
   aw)))
  (aL [.fact 0 (.one (.s))] ⟨Rw.Is 2 (If z k) n,trivial⟩) bc
def uR (z:Nat->Int) (n k m:Nat):List WP:=[Rw 2 (If z k) n,Rw 2 (If z k) (tl z n),Nz (tl z n),Nz m,ah 2 52 (Nf (upto 0 (drv z)) (2+k)) m,b9 m,Nz m,ah 2 52 (Nf (upto m (drv z)) (2+k)) m]
def Qx (z:Nat->Int) (k m:Nat) (j:Nat):List WP:=[Nz j,ah 2 52 (Nf (upto j (drv z)) (2+k)) m,fun _ _=>True,Nz (j+1),Nw (((j+1):Nat):Int) 2,Nz (j+1),Ptr 2 (Iw (z (j+1)) k),Iw (z (j+1)) k,Nw ((((j+1):Nat):Int)*(z (j+1))) (2+k),At 2,Ptr 2 (Nw ((upto j (drv z)) j) (2+k)),fun w v=>ah 2 52 (fun ι w v=>af w v ((upto (j+1) (drv z)) ι) (2+k)) m w v,Nz (j+1)]
def CM:bg:=⟨[0,2,5,6,7,8,9,10,11,12,13,14],[(.slot 15,.i),(.slot 3,.s)],[(.one 0,8),(.one 1,.Ru [1] 9),(.one 1,.lo 1)],[.closed (.one (.ci .i64 0)),.frm 4,.frm 0],8,[(9,7)]⟩
def CN:List Step:=[bQ [.fact 8,.fact 6] oT (ak .lss),
   bQ [.fact 8,.lit (.ci .i64 1)] [oN 11] (ak .add),
   .base ⟨59,[.fact 11],[oI 12],false⟩,
   bQ [.fact 8,.lit (.ci .i64 1)] [oN 13] (ak .add),
   bQ [.fact 1,.fact 13] [oP 14] (aG 28),
   bQ [.fact 14] [oI 15] (aM 52),
   .base ⟨63,[.fact 12,.fact 15],[oI 16],false⟩,
   .base ⟨0,[.fact 9,.fact 8],[oP 18],.joint [1] 17 (aG 28)⟩,
   .base ⟨0,[.fact 9,.fact 8,.any,.fact 16],[oS 19],.put [] 1 0 17 (dV 52 (.tmp 18) (.tmp 19))⟩,
   bQ [.fact 8,.lit (.ci .i64 1)] [oN 20] (ak .add)]
def Qy:List Step:=[bQ [.fact 8,.fact 6] oF (ak .lss)]
def Qz:List Step:=[.base ⟨60,[.fact 0],[oS 1],false⟩,
   bQ [.fact 1] [oN 2] (aD 28),
   bQ [.fact 2,.lit (.ci .i64 0)] oF (ak .eql),
   .base ⟨49,[.fact 1],[oN 3],false⟩,
   .base ⟨0,[.fact 3,.fact 3],[oS 4],.loose [] 1 0 (fp 28)⟩,
   .freed (.one (.s 10 0)) 4 5,
   bQ [.fact 5] [oN 6] (aD 28),
   .loop CM [(CN,[.frm 20,.frm 19,.frm 0])] Qy]
def QA:List Out:=[oS 0]
theorem QB {z:Nat->Int}{n k m:Nat} (hn:n<=1000000) (hk:k<=100000) (hT:tl z n=m+1) (hm:m<=1000000):ai (ph (uR z n k m)) Tryz.prog ⟨30,[.fact 0],[oS 7],false⟩:=by
 have hle:=aF z n
 exact aV QA [oS 7] Qz Tryz.func30 (by kernel_rfl)
  (lB (gS (z:=z) (n:=n) (k:=k) (F:=(If z k)) ad bc (fun _ _ _ _ g h=>aC.kp h g) rfl (by omega) (by omega))
   (lB (aP (F:=(If z k)) Tryz.underlying28 ad rfl)
   (lB (dO ad)
   (lB (iL (n:=(tl z n)) (fun _ _ h=>Rw.iM (sz:=2) (F:=(If z k)) (n:=(tl z n)) h) rfl (by omega) (by omega))
   (lB (gZ (n:=m) (F:=(Nf (upto 0 (drv z)) (2+k))) ad (by omega) (fun i w=>af.zero w (2+k)) rfl)
   (cV (cW (e:=52) (sz:=2) (n:=m) (F:=(Nf (upto 0 (drv z)) (2+k))) ad rfl)
   (lB (ce (n:=m) Tryz.underlying28 ad rfl)
   (bz (counted m (fun j=>ph (uR z n k m ++ Qx z k m j)) (fun _=>0) (fun j p hp=>bB (show p<(uR z n k m).length from hp)) ⟨fun _=>rfl,ad,aS,trivial⟩ (fun j hj=>by
   skip
   exact ⟨(CN,[.frm 20,.frm 19,.frm 0]),rfl,⟨ad,ad,aS,trivial⟩,(lB (cU ad ad)
   (lB (cN ad (by omega) rfl (by omega) (by omega))
   (lB (lA ad rfl (by omega) (by omega) rfl)
   (lB (cN ad (by omega) rfl (by omega) (by omega))
   (lB (bZ (i:=(j+1)) (F:=(If z k)) Tryz.underlying28 (by kernel_rfl) ad ad (by omega) rfl)
   (lB (dW (sz:=2) (F:=Iw (z (j+1)) k) (by kernel_rfl) (by kernel_rfl) ad (fun _ _ _ g h=>aC.kp h g) (fun _ _ h=>aC.is h) rfl)
   (lB (g9 nI iI rfl (by omega) rfl)
   (lB (bI (i:=j) (sz:=2) (n:=m) (F:=(Nf (upto j (drv z)) (2+k))) Tryz.underlying28 (by kernel_rfl) (fun _ _ h=>ah.arr h) ad (by omega) rfl rfl)
   (lB (fo (i:=j) (n:=m) (F:=(fun ι w v=>af w v ((upto j (drv z)) ι) (2+k))) (F':=(fun ι w v=>af w v ((upto (j+1) (drv z)) ι) (2+k))) (G:=Nw ((((j+1):Nat):Int)*(z (j+1))) (2+k)) (.tmp 18) (.tmp 19) (by kernel_rfl) ad ad (by omega) ad rfl (fun _ _ h=>af.cells h) (fun _ _ _ _ g h=>af.kp h g) (fun _ _ _ g h=>af.kp h g) (fun i w v hi h=>by rw [ms hi];exact h) (fun w v h=>by rw [mt];exact h) rfl)
   (lB (cN ad (by omega) rfl (by omega) (by omega))
   aw))))))))))⟩)
   (lB (tlF ad ad)
   aw)
   (fun q hq w v h=>by
    simp only [CM,List.mem_cons,List.not_mem_nil,or_false] at hq
    rcases hq with rfl
    ·exact (fun h=>h) h)) aw))))))))
  (aL [.fact 0 (.one (.s))] ⟨Rw.Is 2 (If z k) n,trivial⟩) bc
section
variable {Φ:PH}{p q x n k n0 n1 k1 kg:Nat}{z y g:Nat->Int}
theorem uS (hp:∀w v,Φ p w v->Rw 2 (If z k) n w v) (hx:Φ x=Rw 2 (Nf (drv z) (2+k)) (tl z n-1)) (hn:n<=1000000) (hk:k<=100000):ai Φ Tryz.prog ⟨30,[.fact p],[oS x],false⟩:=by
 have hle:=aF z n
 rcases Nat.eq_zero_or_pos (tl z n) with h0 | h0
 ·exact fun X w vs hX hag=>(Qw (k:=k) hn hk h0 X w vs hX (fK.ok (l:=[.fact p]) (m:=[.fact 0]) ⟨hp,trivial⟩ hag)).mono fun e w' ⟨hg,us,he,ho⟩=>⟨hg,us,he,by
   match us,ho with
   | [u],ho=>
    have hu:u = .slice none 0 0:=ho.1.1.1
    subst hu
    refine ⟨⟨Rw.is (sz:=2) (F:=Nf (drv z) (2+k)) (n:=0) (Rw.nil 2 _ w'),fun f hf w1 hw1=>?_⟩,trivial⟩
    simp only [List.mem_singleton] at hf
    subst hf
    show Φ x w1 (.slice none 0 0)
    rw [hx,h0]
    exact Rw.nil 2 _ w1⟩
 ·obtain ⟨m,hm⟩:∃m,tl z n=m+1:=⟨tl z n-1,by omega⟩
  refine aW (QB (k:=k) hn hk hm (by omega)) ⟨hp,trivial⟩ ⟨⟨rfl,⟨rfl,rfl,fun w v h=>?_⟩,trivial⟩,trivial⟩
  rw [hx,hm,Nat.add_sub_cancel]
  exact Rw.to (sz:=2) (n:=m) (F:=Nf (upto m (drv z)) (2+k)) (ah.rw (e:=52) h) fun i w v hi h=>h.eq (fD hi)
theorem Na (hp:∀w v,Φ p w v->Rw 2 (If z k) n0 w v) (hq:∀w v,Φ q w v->Rw 2 (If y k1) n1 w v) (hn0:n0<=1000000) (hn1:n1<=1000000) (hk:k<=90000) (hk1:k1<=90000) (hyt:tl y n1=0) :
  ai Φ Tryz.prog ⟨93,[.fact p,.fact q],[⟨.one (.lit .nl),[]⟩,oL (.ci .i64 2)],true⟩:=
 aW (Hf (Z:=be (mk n0 z)) (Y:=be (mk n1 y)) hn0 hn1 hk hk1 rfl rfl (by rw [gl,hyt])) ⟨hp,hq,trivial⟩ ⟨⟨rfl,trivial⟩,⟨rfl,trivial⟩,trivial⟩
theorem QD (hp:∀w v,Φ p w v->Rw 2 (If z k) n0 w v) (hq:∀w v,Φ q w v->Rw 2 (If y k1) n1 w v) (hx:Φ x=Rw 2 (Nf g kg) (n0+1-n1)) (hn0:n0<=1000) (hn1:n1<=1000) (hk:∀i,Bd (z i).natAbs k) (hk1:∀i,Bd (y i).natAbs k1) (hK:k+(n0+1)*(k1+1)<=90000)
  (hz0:∀i,n0<=i->z i=0) (hzt:tl z n0=n0) (hy0:∀i,n1<=i->y i=0) (hyt:tl y n1=n1) (lD:0<n1) (hg0:∀i,n0+1-n1<=i->g i=0) (hzg:∀i,z i=conv g y i) (hgb:∀i,Bd (g i).natAbs kg) :
  ai Φ Tryz.prog ⟨93,[.fact p,.fact q],[oS x,oL (.ci .i64 0)],true⟩:=by
 obtain ⟨Z,hZ⟩:∃Z,be (mk n0 z)=Z:=⟨_,rfl⟩
 obtain ⟨Y,hY⟩:∃Y,be (mk n1 y)=Y:=⟨_,rfl⟩
 have eZ:ae Z=z:=funext fun i=>by
  rw [<- hZ,om]
  unfold upto
  split
  ·rfl
  ·exact (hz0 i (by omega)).symm
 have eY:ae Y=y:=funext fun i=>by
  rw [<- hY,om]
  unfold upto
  split
  ·rfl
  ·exact (hy0 i (by omega)).symm
 have lZ:Z.length=n0:=by rw [<- hZ,gl,hzt]
 have lY:Y.length=n1:=by rw [<- hY,gl,hyt]
 obtain ⟨nb,rfl⟩:∃nb,n1=nb+1:=⟨n1-1,by omega⟩
 obtain ⟨m,hm⟩:∃m,n0-nb=m:=⟨_,rfl⟩
 obtain ⟨c,hc⟩:∃c,y nb=c:=⟨_,rfl⟩
 have hc0:c≠0:=by
  have:=gk y (nb+1) (by omega)
  rw [hyt,Nat.add_sub_cancel,hc] at this
  exact this
 have hld:cD (ae Y) (nb+1)=c:=by
  rw [eY,cD,hyt,if_neg (by omega),Nat.add_sub_cancel,hc]
 have hyo:∀i,nb<i->y i=0:=fun i hi=>hy0 i (by omega)
 have hKm:k+(m+1)*(k1+1)<=k+(n0+1)*(k1+1):=Nat.add_le_add_left (Nat.mul_le_mul_right _ (by omega)) k
 have hkk:k<=90000:=by omega
 have oo:k1<=90000:=by
  have:1*(k1+1)<=(n0+1)*(k1+1):=Nat.mul_le_mul_right _ (by omega)
  omega
 obtain ⟨K,hKd⟩:∃K,k+(m+1)*(k1+1)=K:=⟨_,rfl⟩
 have hM:∀j i p,j<m->Bd (exM (ae Z) (ae Y) nb m c j i p).natAbs K:=fun j i p hj=>by
  rw [eZ,eY,<- hKd]
  refine ((Ci (n:=nb) (m:=m) (c:=c) hk hk1 j).2 i p).more ?_
  have:(j+1)*(k1+1)<=(m+1)*(k1+1):=Nat.mul_le_mul_right _ (by omega)
  omega
 have hgm:∀i,m<=i->g i=0:=fun i hi=>hg0 i (by omega)
 have hev:=y4 hc hyo hc0 hgm hzg
 refine aW (xG (K:=K) (Z:=Z) (Y:=Y) (c:=c) (m:=m) (by omega) (by omega) hkk oo hY (by omega) lY (by omega) hZ (by omega) (by omega) (by omega) hld hc0 (by rw [eZ,eY];exact hev.1) hM ?_) ⟨hp,hq,trivial⟩ ⟨⟨rfl,⟨rfl,rfl,fun w v h=>?_⟩,trivial⟩,⟨rfl,trivial⟩,trivial⟩
 ·rw [eZ,eY,lZ]
  have h0:tl (aJ z y nb m c m) (min nb n0)=0:=Classical.byContradiction fun hne=>by
   have h1:=gk (aJ z y nb m c m) (min nb n0) (by omega)
   have h2:=aF (aJ z y nb m c m) (min nb n0)
   exact h1 (hev.2 _ (by omega))
  exact List.length_eq_zero_iff.1 (by rw [gl,h0])
 ·rw [hx,show n0+1-(nb+1)=m by omega]
  refine Rw.to (sz:=2) (n:=m) (F:=Nf (dto m m (exT (ae Z) (ae Y) nb m c)) K) (ah.rw (e:=52) h) fun i w v hi h=>?_
  have e:dto m m (exT (ae Z) (ae Y) nb m c) i=g i:=by
   unfold dto exT
   rw [if_pos (by omega),eZ,eY,p9 hc hyo hc0 hgm hzg (by omega) _ (by omega),show m-(m-1-i)=i+1 by omega,gu (f:=upto (i+1) g) (i:=i) (k:=nb) (fun j hj=>if_neg (by omega)) hyo,hc,Int.mul_ediv_cancel _ hc0]
   exact if_pos (by omega)
  exact af.re (h.eq e) (hgb i)
end
def QE (z y q:Nat->Int) (n0 n1 k k1 kg:Nat):List WP:=[Rw 2 (If z k) n0,Rw 2 (If y k1) n1,Rw 2 (Nf q kg) (n0+1-n1)]
def QF:List Step:=[.base ⟨93,[.fact 0,.fact 1],[oS 2,oL (.ci .i64 0)],true⟩]
def QG:List Out:=[oS 0,oS 1]
theorem QH {z y q:Nat->Int}{n0 n1 k k1 kg:Nat} (hn0:n0<=1000) (hn1:n1<=1000) (hk:∀i,Bd (z i).natAbs k) (hk1:∀i,Bd (y i).natAbs k1) (hK:k+(n0+1)*(k1+1)<=90000) (hz0:∀i,n0<=i->z i=0) (hzt:tl z n0=n0) (hy0:∀i,n1<=i->y i=0) (hyt:tl y n1=n1) (lD:0<n1) (hg0:∀i,n0+1-n1<=i->q i=0) (hzg:∀i,z i=conv q y i) (hgb:∀i,Bd (q i).natAbs kg):ai (ph (QE z y q n0 n1 k k1 kg)) Tryz.prog ⟨56,[.fact 0,.fact 1],[oS 2],false⟩:=by
 skip
 exact aV QG [oS 2] QF Tryz.func56 (by kernel_rfl)
  (lB (QD (z:=z) (y:=y) (g:=q) (Rw.To 2 (If z k) n0 (fun _ _ _ _ h=>h)) (Rw.To 2 (If y k1) n1 (fun _ _ _ _ h=>h)) rfl hn0 hn1 hk hk1 hK hz0 hzt hy0 hyt lD hg0 hzg hgb)
   aw)
  (aL [.fact 0 (.one (.s)),.fact 1 (.one (.s))] ⟨Rw.Is 2 (If z k) n0,Rw.Is 2 (If y k1) n1,trivial⟩) bc
def Nb (z y:Nat->Int) (n0 n1 k k1:Nat):List WP:=[Rw 2 (If z k) n0,Rw 2 (If y k1) n1]
def Nc:List Step:=[.base ⟨93,[.fact 0,.fact 1],[⟨.one (.lit (.nl)),[]⟩,oL (.ci .i64 2)],true⟩]
def PX:List Out:=[oS 0,oS 1]
theorem PY {z y:Nat->Int}{n0 n1 k k1:Nat} (hn0:n0<=1000) (hn1:n1<=1000) (hk:k<=90000) (hk1:k1<=90000) (hyt:tl y n1=0):ai (ph (Nb z y n0 n1 k k1)) Tryz.prog ⟨56,[.fact 0,.fact 1],[⟨.one (.lit (.nl)),[]⟩],false⟩:=by
 skip
 exact aV PX [⟨.one (.lit (.nl)),[]⟩] Nc Tryz.func56 (by kernel_rfl)
  (lB (Na (Rw.To 2 (If z k) n0 (fun _ _ _ _ h=>h)) (Rw.To 2 (If y k1) n1 (fun _ _ _ _ h=>h)) (by omega) (by omega) (by omega) (by omega) (by omega))
   aw)
  (aL [.fact 0 (.one (.s)),.fact 1 (.one (.s))] ⟨Rw.Is 2 (If z k) n0,Rw.Is 2 (If y k1) n1,trivial⟩) bc
section
variable {Φ:PH}{p q x n k n0 n1 k1 kg:Nat}{z y g:Nat->Int}
theorem CO (hp:∀w v,Φ p w v->Rw 2 (If z k) n0 w v) (hq:∀w v,Φ q w v->Rw 2 (If y k1) n1 w v) (hx:Φ x=Rw 2 (Nf g kg) (n0+1-n1)) (hn0:n0<=1000) (hn1:n1<=1000) (hk:∀i,Bd (z i).natAbs k) (hk1:∀i,Bd (y i).natAbs k1) (hK:k+(n0+1)*(k1+1)<=90000)
  (hz0:∀i,n0<=i->z i=0) (hzt:tl z n0=n0) (hy0:∀i,n1<=i->y i=0) (hyt:tl y n1=n1) (lD:0<n1) (hg0:∀i,n0+1-n1<=i->g i=0) (hzg:∀i,z i=conv g y i) (hgb:∀i,Bd (g i).natAbs kg) :
  ai Φ Tryz.prog ⟨56,[.fact p,.fact q],[oS x],false⟩:=
 aW (QH hn0 hn1 hk hk1 hK hz0 hzt hy0 hyt lD hg0 hzg hgb) ⟨hp,hq,trivial⟩ ⟨⟨rfl,⟨rfl,rfl,fun _ _ h=>hx▸h⟩,trivial⟩,trivial⟩
theorem ll (hp:∀w v,Φ p w v->Rw 2 (If z k) n0 w v) (hq:∀w v,Φ q w v->Rw 2 (If y k1) n1 w v) (hn0:n0<=1000) (hn1:n1<=1000) (hk:k<=90000) (hk1:k1<=90000) (hyt:tl y n1=0) :
  ai Φ Tryz.prog ⟨56,[.fact p,.fact q],[⟨.one (.lit .nl),[]⟩],false⟩:=
 aW (PY hn0 hn1 hk hk1 hyt) ⟨hp,hq,trivial⟩ ⟨⟨rfl,trivial⟩,trivial⟩
end
theorem fh {z:Nat->Int}{n k K:Nat}{w:World}{v:Value} (h:Rw 2 (If z k) n w v) (hk:k<=K):Rw 2 (If z K) n w v:=h.to fun _ _ _ _ h=>h.more hk
theorem uU {s:(Nat->Int)×Nat} (h:Vz s):tl s.1 s.2=s.2:=iO fun h0=>by have:=(h.2 h0).1;omega
section
variable {Φ:PH}{p p0 p1 p2 x j k n0 n1 n2 k2:Nat}{z0 z1 z2:Nat->Int}
theorem tK {F:PH} (hx:Φ x=Rw 2 F 0) (X:Nat->Prop) (w:World) (v:Value) (h:(Arg.parts (.one (.lit .nl)) []).ok Φ X w v):(Arg.fact x).ok Φ X w v:=fun w1 _=>by
 rw [hx]
 have e:v = .slice none 0 0:=h.1.1
 rw [e]
 exact Rw.nil 2 F w1
theorem Kx {J:List Nat} (h0:∀w v,Φ p0 w v->Rw 2 (If z0 k) n0 w v) (hx:Φ x=Rw 1 (bf (cl z0 z0 z0) (cl n0 n0 n0) k) 1) :
  ai Φ Tryz.prog ⟨0,[.any,.fact p0],[oS x],.fresh J (cj 41 1)⟩:=
 fB (ps:=[p0]) (sz:=1) (zc:=.one .nl) Tryz.underlying41 (by kernel_rfl) (by omega) (by kernel_rfl) (by omega) (by omega) rfl (fun i p h w v hv=>by
  match i,h with
  | 0,h=>
   obtain rfl:=Option.some.inj h
   exact ⟨by rw [fC (h0 w v hv)];rfl,v,by rw [fC (h0 w v hv)],h0 w v hv⟩
  | i+1,h=>simp at h) hx
theorem ko {J:List Nat} (h0:∀w v,Φ p0 w v->Rw 2 (If z0 k) n0 w v) (h1:∀w v,Φ p1 w v->Rw 2 (If z1 k) n1 w v) (hx:Φ x=Rw 1 (bf (cl z0 z1 z1) (cl n0 n1 n1) k) 2) :
  ai Φ Tryz.prog ⟨0,[.any,.fact p0,.fact p1],[oS x],.fresh J (cj 41 2)⟩:=
 fB (ps:=[p0,p1]) (sz:=1) (zc:=.one .nl) Tryz.underlying41 (by kernel_rfl) (by omega) (by kernel_rfl) (by omega) (by omega) rfl (fun i p h w v hv=>by
  match i,h with
  | 0,h=>
   obtain rfl:=Option.some.inj h
   exact ⟨by rw [fC (h0 w v hv)];rfl,v,by rw [fC (h0 w v hv)],h0 w v hv⟩
  | 1,h=>
   obtain rfl:=Option.some.inj h
   exact ⟨by rw [fC (h1 w v hv)];rfl,v,by rw [fC (h1 w v hv)],h1 w v hv⟩
  | i+2,h=>simp at h) hx
theorem CP {t:(Nat->Int)×Nat}{k:Nat} (h:t.2<=1000):fZ (fun _=>0,0) t k2 k:=⟨Nat.zero_le _,h,fun h=>absurd h (by dsimp only;omega)⟩
theorem QI (hp:∀w v,Φ p w v->Rw 1 (bf (cl z0 z1 z2) (cl n0 n1 n2) k) 1 w v) (hx:Φ x=Rw 2 (Nf ((pri z0 n0).1) k2) (pri z0 n0).2) (h0:n0<=1000) (hk:k<=100) (hB0:∀i,Bd ((pri z0 n0).1 i).natAbs k2) :
  ai Φ Tryz.prog ⟨15,[.fact p],[oS x],false⟩:=
 CL (c:=pri z0 n0) hp hx (by omega) hk (fun i hi=>by
  obtain rfl:i=0:=by omega
  exact h0) (fun j hj i=>by
  match j,hj with
  | 0,_=>exact Nat.pow_pos (by omega)
  | 1,_=>exact hB0 i) (fun j hj=>by
  obtain rfl:j=0:=by omega
  exact CP (Nat.le_trans (aF _ _) h0)) rfl
theorem mH (hp:∀w v,Φ p w v->Rw 1 (bf (cl z0 z1 z2) (cl n0 n1 n2) k) 2 w v) (hx:Φ x=Rw 2 (Nf ((cmn (pri z0 n0) (pri z1 n1)).1) k2) (cmn (pri z0 n0) (pri z1 n1)).2) (h0:n0<=1000) (h1:n1<=1000) (hk:k<=100) (hB0:∀i,Bd ((pri z0 n0).1 i).natAbs k2) (hBc:∀i,Bd ((cmn (pri z0 n0) (pri z1 n1)).1 i).natAbs k2) (hC:fZ (pri z0 n0) (pri z1 n1) k2 k) :
  ai Φ Tryz.prog ⟨15,[.fact p],[oS x],false⟩:=
 CL (c:=cmn (pri z0 n0) (pri z1 n1)) hp hx (by omega) hk (fun i hi=>by
  match i,hi with
  | 0,_=>exact h0
  | 1,_=>exact h1) (fun j hj i=>by
  match j,hj with
  | 0,_=>exact Nat.pow_pos (by omega)
  | 1,_=>exact hB0 i
  | 2,_=>exact hBc i) (fun j hj=>by
  match j,hj with
  | 0,_=>exact CP (Nat.le_trans (aF _ _) h0)
  | 1,_=>exact hC) rfl
end
def cT (z:Nat->Int) (n:Nat):(Nat->Int)×Nat:=cmn (pri (pri z n).1 (pri z n).2) (pri (drv (pri z n).1) (tl (pri z n).1 (pri z n).2-1))
theorem uT (z:Nat->Int) (n:Nat):Vz (cT z n):=oz (dh _ _) (dh _ _)
def QN (a b:Nat->Int) (la lb ka kb k k2:Nat):List WP:=[Rw 2 (If a ka) la,Rw 2 (If b kb) lb,Rw 1 (bf (cl a b b) (cl la lb lb) k) 2,Rw 2 (Nf ((cmn (pri a la) (pri b lb)).1) k2) ((cmn (pri a la) (pri b lb)).2),Ni ((((cmn (pri a la) (pri b lb)).2:Nat):Int)-1)]
def QO:List Step:=[.base ⟨0,[.any,.fact 0,.fact 1],[oS 2],.fresh [] (cj 41 2)⟩,
   .base ⟨15,[.fact 2],[oS 3],false⟩,
   .base ⟨49,[.fact 3],[oN 4],false⟩,
   bQ [.fact 4,.lit (.ci .i64 0)] oT (ak .eql)]
def QP:List Out:=[oS 0,oS 1]
theorem QR {a b:Nat->Int}{la lb ka kb k k2:Nat} (hla:la<=1000) (hlb:lb<=1000) (hka:ka<=k) (hkb:kb<=k) (hk:k<=100) (hB0:∀i,Bd ((pri a la).1 i).natAbs k2) (hBc:∀i,Bd ((cmn (pri a la) (pri b lb)).1 i).natAbs k2) (hC:fZ (pri a la) (pri b lb) k2 k) (_hcl:(cmn (pri a la) (pri b lb)).2<=1000) (hr:(cmn (pri a la) (pri b lb)).2=1):ai (ph (QN a b la lb ka kb k k2)) Tryz.prog ⟨16,[.fact 0,.fact 1],oT,false⟩:=by
 skip
 exact aV QP oT QO Tryz.func16 (by kernel_rfl)
  (lB (ko (fun w v h=>fh ((Rw.To 2 (If a ka) la (fun _ _ _ _ h=>h)) w v h) (by omega)) (fun w v h=>fh ((Rw.To 2 (If b kb) lb (fun _ _ _ _ h=>h)) w v h) (by omega)) rfl)
   (lB (mH ad rfl (by omega) (by omega) (by omega) hB0 hBc hC)
   (lB (iL (n:=(cmn (pri a la) (pri b lb)).2) (fun _ _ h=>Rw.iM (sz:=2) (F:=(Nf ((cmn (pri a la) (pri b lb)).1) k2)) (n:=(cmn (pri a la) (pri b lb)).2) h) rfl (by omega) (rfl))
   (lB (jK ad)
   aw))))
  (aL [.fact 0 (.one (.s)),.fact 1 (.one (.s))] ⟨Rw.Is 2 (If a ka) la,Rw.Is 2 (If b kb) lb,trivial⟩) bc
def QS (a b:Nat->Int) (la lb ka kb k k2:Nat):List WP:=[Rw 2 (If a ka) la,Rw 2 (If b kb) lb,Rw 1 (bf (cl a b b) (cl la lb lb) k) 2,Rw 2 (Nf ((cmn (pri a la) (pri b lb)).1) k2) ((cmn (pri a la) (pri b lb)).2),Ni ((((cmn (pri a la) (pri b lb)).2:Nat):Int)-1)]
def QT:List Step:=[.base ⟨0,[.any,.fact 0,.fact 1],[oS 2],.fresh [] (cj 41 2)⟩,
   .base ⟨15,[.fact 2],[oS 3],false⟩,
   .base ⟨49,[.fact 3],[oN 4],false⟩,
   bQ [.fact 4,.lit (.ci .i64 0)] oF (ak .eql)]
def QU:List Out:=[oS 0,oS 1]
theorem QW {a b:Nat->Int}{la lb ka kb k k2:Nat} (hla:la<=1000) (hlb:lb<=1000) (hka:ka<=k) (hkb:kb<=k) (hk:k<=100) (hB0:∀i,Bd ((pri a la).1 i).natAbs k2) (hBc:∀i,Bd ((cmn (pri a la) (pri b lb)).1 i).natAbs k2) (hC:fZ (pri a la) (pri b lb) k2 k) (hcl:(cmn (pri a la) (pri b lb)).2<=1000) (hr:(cmn (pri a la) (pri b lb)).2≠1):ai (ph (QS a b la lb ka kb k k2)) Tryz.prog ⟨16,[.fact 0,.fact 1],oF,false⟩:=by
 skip
 exact aV QU oF QT Tryz.func16 (by kernel_rfl)
  (lB (ko (fun w v h=>fh ((Rw.To 2 (If a ka) la (fun _ _ _ _ h=>h)) w v h) (by omega)) (fun w v h=>fh ((Rw.To 2 (If b kb) lb (fun _ _ _ _ h=>h)) w v h) (by omega)) rfl)
   (lB (mH ad rfl (by omega) (by omega) (by omega) hB0 hBc hC)
   (lB (iL (n:=(cmn (pri a la) (pri b lb)).2) (fun _ _ h=>Rw.iM (sz:=2) (F:=(Nf ((cmn (pri a la) (pri b lb)).1) k2)) (n:=(cmn (pri a la) (pri b lb)).2) h) rfl (by omega) (rfl))
   (lB (dO ad)
   aw))))
  (aL [.fact 0 (.one (.s)),.fact 1 (.one (.s))] ⟨Rw.Is 2 (If a ka) la,Rw.Is 2 (If b kb) lb,trivial⟩) bc
def QJ (z q:Nat->Int) (n k k2 kg:Nat):List WP:=[Rw 2 (If z k) n,Nw (bS z n) k,Rw 2 (Nf ((pri z n).1) k) ((pri z n).2),Rw 2 (Nf (drv (pri z n).1) (2+k)) (tl (pri z n).1 ((pri z n).2)-1),Rw 1 (bf (cl (pri z n).1 (drv (pri z n).1) (drv (pri z n).1)) (cl ((pri z n).2) (tl (pri z n).1 ((pri z n).2)-1) (tl (pri z n).1 ((pri z n).2)-1)) (2+k)) 2,Rw 2 (Nf ((cT z n).1) k2) ((cT z n).2),Rw 2 (Nf q kg) ((pri z n).2+1-(cT z n).2)]
def QK:List Step:=[.base ⟨47,[.fact 0],[oI 1,oS 2],true⟩,
   .base ⟨30,[.fact 2],[oS 3],false⟩,
   .base ⟨0,[.any,.fact 2,.fact 3],[oS 4],.fresh [] (cj 41 2)⟩,
   .base ⟨15,[.fact 4],[oS 5],false⟩,
   .base ⟨56,[.fact 2,.fact 5],[oS 6],false⟩]
def QL:List Out:=[oS 0]
theorem psq {z q:Nat->Int}{n k k2 kg:Nat} (hn:n<=1000) (hk:k<=90) (hB0:∀i,Bd ((pri (pri z n).1 (pri z n).2).1 i).natAbs k2) (hBc:∀i,Bd ((cT z n).1 i).natAbs k2) (hC:fZ (pri (pri z n).1 (pri z n).2) (pri (drv (pri z n).1) (tl (pri z n).1 (pri z n).2-1)) k2 (2+k)) (_hk2:k2<=1000) (hcl:(cT z n).2<=1000) (hBa:∀i,Bd ((pri z n).1 i).natAbs k) (hc0:0<(cT z n).2) (hg0:∀i,(pri z n).2+1-(cT z n).2<=i->q i=0) (hzg:∀i,(pri z n).1 i=conv q (cT z n).1 i) (hgb:∀i,Bd (q i).natAbs kg) (hKK:k+((pri z n).2+1)*(k2+1)<=90000):ai (ph (QJ z q n k k2 kg)) Tryz.prog ⟨24,[.fact 0],[oS 6],false⟩:=by
 have hpl:(pri z n).2<=n:=aF z n;have hdl:=aF (pri z n).1 (pri z n).2;have hV:=dh z n;have hW:=uT z n
 exact aV QL [oS 6] QK Tryz.func24 (by kernel_rfl)
  (lB (pI (Rw.To 2 (fun ι w v=>aC w v (z ι) k) n (fun _ _ _ _ h=>h)) rfl rfl (by omega) (by omega) rfl (by rw [dvL,iG];rfl))
   (lB (uS (z:=(pri z n).1) (n:=(pri z n).2) (k:=k) (Rw.To 2 (Nf ((pri z n).1) k) ((pri z n).2) (fun _ _ _ _ h=>af.i h)) rfl (by omega) (by omega))
   (lB (ko (fun w v h=>fh ((Rw.To 2 (Nf ((pri z n).1) k) ((pri z n).2) (fun _ _ _ _ h=>af.i h)) w v h) (by omega)) (fun w v h=>fh ((Rw.To 2 (Nf (drv (pri z n).1) (2+k)) (tl (pri z n).1 ((pri z n).2)-1) (fun _ _ _ _ h=>af.i h)) w v h) (by omega)) rfl)
   (lB (mH ad rfl (by omega) (by omega) (by omega) hB0 hBc hC)
   (lB (CO (g:=q) (z:=(pri z n).1) (n0:=(pri z n).2) (k:=k) (y:=(cT z n).1) (n1:=(cT z n).2) (k1:=k2) (Rw.To 2 (Nf ((pri z n).1) k) ((pri z n).2) (fun _ _ _ _ h=>af.i h)) (Rw.To 2 (Nf ((cT z n).1) k2) ((cT z n).2) (fun _ _ _ _ h=>af.i h)) rfl (by omega) (by omega) hBa hBc hKK hV.1 (uU hV) hW.1 (uU hW) hc0 hg0 hzg hgb)
   aw)))))
  (aL [.fact 0 (.one (.s))] ⟨Rw.Is 2 (If z k) n,trivial⟩) bc
def QM (z:Nat->Int) (n k k2:Nat):List WP:=[Rw 2 (If z k) n,Nw (bS z n) k,Rw 2 (Nf ((pri z n).1) k) ((pri z n).2),Rw 2 (Nf (drv (pri z n).1) (2+k)) (tl (pri z n).1 ((pri z n).2)-1),Rw 1 (bf (cl (pri z n).1 (drv (pri z n).1) (drv (pri z n).1)) (cl ((pri z n).2) (tl (pri z n).1 ((pri z n).2)-1) (tl (pri z n).1 ((pri z n).2)-1)) (2+k)) 2,Rw 2 (Nf ((cT z n).1) k2) ((cT z n).2)]
def QX:List Step:=[.base ⟨47,[.fact 0],[oI 1,oS 2],true⟩,
   .base ⟨30,[.fact 2],[oS 3],false⟩,
   .base ⟨0,[.any,.fact 2,.fact 3],[oS 4],.fresh [] (cj 41 2)⟩,
   .base ⟨15,[.fact 4],[oS 5],false⟩,
   .base ⟨56,[.fact 2,.fact 5],[⟨.one (.lit (.nl)),[]⟩],false⟩]
def QY:List Out:=[oS 0]
theorem QZ {z:Nat->Int}{n k k2:Nat} (hn:n<=1000) (hk:k<=90) (hB0:∀i,Bd ((pri (pri z n).1 (pri z n).2).1 i).natAbs k2) (hBc:∀i,Bd ((cT z n).1 i).natAbs k2) (hC:fZ (pri (pri z n).1 (pri z n).2) (pri (drv (pri z n).1) (tl (pri z n).1 (pri z n).2-1)) k2 (2+k)) (hk2:k2<=1000) (hcl:(cT z n).2<=1000) (hc0:(cT z n).2=0):ai (ph (QM z n k k2)) Tryz.prog ⟨24,[.fact 0],[⟨.one (.lit (.nl)),[]⟩],false⟩:=by
 have hpl:(pri z n).2<=n:=aF z n;have hdl:=aF (pri z n).1 (pri z n).2
 exact aV QY [⟨.one (.lit (.nl)),[]⟩] QX Tryz.func24 (by kernel_rfl)
  (lB (pI (Rw.To 2 (fun ι w v=>aC w v (z ι) k) n (fun _ _ _ _ h=>h)) rfl rfl (by omega) (by omega) rfl (by rw [dvL,iG];rfl))
   (lB (uS (z:=(pri z n).1) (n:=(pri z n).2) (k:=k) (Rw.To 2 (Nf ((pri z n).1) k) ((pri z n).2) (fun _ _ _ _ h=>af.i h)) rfl (by omega) (by omega))
   (lB (ko (fun w v h=>fh ((Rw.To 2 (Nf ((pri z n).1) k) ((pri z n).2) (fun _ _ _ _ h=>af.i h)) w v h) (by omega)) (fun w v h=>fh ((Rw.To 2 (Nf (drv (pri z n).1) (2+k)) (tl (pri z n).1 ((pri z n).2)-1) (fun _ _ _ _ h=>af.i h)) w v h) (by omega)) rfl)
   (lB (mH ad rfl (by omega) (by omega) (by omega) hB0 hBc hC)
   (lB (ll (z:=(pri z n).1) (n0:=(pri z n).2) (k:=k) (y:=(cT z n).1) (n1:=(cT z n).2) (k1:=k2) (Rw.To 2 (fun ι w v=>af w v ((pri z n).1 ι) k) ((pri z n).2) (fun _ _ _ _ h=>af.i h)) (Rw.To 2 (fun ι w v=>af w v ((cT z n).1 ι) k2) ((cT z n).2) (fun _ _ _ _ h=>af.i h)) (by omega) (by omega) (by omega) (by omega) (by rw [hc0];rfl))
   aw)))))
  (aL [.fact 0 (.one (.s))] ⟨Rw.Is 2 (If z k) n,trivial⟩) bc
abbrev jl:Type:=(Nat->Int)×Nat
theorem qV {n k k1:Nat} (h:n<=800) (h1:k<=100∧k1<=100):k+(n+1)*(k1+1)<=90000:=by
 have:(n+1)*(k1+1)<=801*101:=Nat.mul_le_mul (by omega) (by omega)
 omega
structure Q5 (a:Nat->Int) (n k kL kR kQ kF:Nat) (L0:Nat->Int) (uV:Nat) (R0:List Int) (G:(Nat->Int)×Nat) (Q0:Nat->Int) (l0:Nat):Prop where
 hn:n<=800
 hat:tl a n=n
 ha0:∀i,n<=i->a i=0
 hBa:∀i,Bd (a i).natAbs k
 hs0:∀i,n-1<=i->drv a i=0
 hst:tl (drv a) (n-1)=n-1
 hBs:∀i,Bd (drv a i).natAbs (2+k)
 hf:cmn (pri a n) (pri (drv a) (n-1))=G
 hBp:∀i,Bd ((pri a n).1 i).natAbs kF
 hBf:∀i,Bd (G.1 i).natAbs kF
 hC:fZ (pri a n) (pri (drv a) (n-1)) kF (2+k)
 hV:Vz G
 hG0:0<G.2
 hGl:G.2<=800
 hLm:n+1-G.2=uV
 hLq:∀i,a i=conv L0 G.1 i
 hQm:n-1+1-G.2=l0
 hQ0:∀i,l0<=i->Q0 i=0
 hQq:∀i,drv a i=conv Q0 G.1 i
 hBq:∀i,Bd (Q0 i).natAbs kQ
 hl0:l0<=800
 hR:(∀i,Bd (ae R0 i).natAbs kR)->be (mk (max l0 (uV-1)) fun i=>upto l0 Q0 i-upto (uV-1) (drv L0) i)=R0∧∀i,Bd (ae R0 i).natAbs kR
structure Q6 (k3 kL kR kQ kF:Nat) (L L':Nat->Int) (lL uW:Nat) (R R':List Int) (F:(Nat->Int)×Nat) (Q:Nat->Int) (lQ:Nat):Prop where
 hd:2<=lL
 hf:cmn (pri L lL) (pri (ae R) R.length)=F
 hBp:∀i,Bd ((pri L lL).1 i).natAbs kF
 hBf:∀i,Bd (F.1 i).natAbs kF
 hC:fZ (pri L lL) (pri (ae R) R.length) kF k3
 hV:Vz F
 hF0:0<F.2
 hFl:F.2<=800
 hLm:lL+1-F.2=uW
 hLq:∀i,L i=conv L' F.1 i
 hQm:R.length+1-F.2=lQ
 hlQ:lQ<=800
 hQ0:∀i,lQ<=i->Q i=0
 hQq:∀i,ae R i=conv Q F.1 i
 hBq:∀i,Bd (Q i).natAbs kQ
 hR:(∀i,Bd (ae R' i).natAbs kR)->be (mk (max lQ (uW - 1)) fun i=>upto lQ Q i-upto (uW - 1) (drv L') i)=R'∧∀i,Bd (ae R' i).natAbs kR
structure kx (a:Nat->Int) (n m k k3 kL kR kQ kF:Nat) (Lf Qf:Nat->Nat->Int) (lL lQ:Nat->Nat) (RL:Nat->List Int) (Fz:Nat->(Nat->Int)×Nat) (G:(Nat->Int)×Nat) (Q0:Nat->Int) (l0:Nat):Prop where
 base:Q5 a n k kL kR kQ kF (Lf 0) (lL 0) (RL 0) G Q0 l0
 rd:∀j,j<m->Q6 k3 kL kR kQ kF (Lf j) (Lf (j+1)) (lL j) (lL (j+1)) (RL j) (RL (j+1)) (Fz j) (Qf j) (lQ j)
 hm:m<=1000
 hk:k<=98
 hk3:k3<=100
 hkL:kL<=k3
 hkR:kR<=k3
 hkQ:kQ<=1000
 hkF:kF<=100
 hL0:∀j,j<=m->∀i,lL j<=i->Lf j i=0
 hLt:∀j,j<=m->tl (Lf j) (lL j)=lL j
 hLl:∀j,j<=m->lL j<=800
 hBl:∀j,j<=m->∀i,Bd (Lf j i).natAbs kL
 hRt:∀j,j<=m->tl (ae (RL j)) (RL j).length=(RL j).length
 hRl:∀j,j<=m->(RL j).length<=800
 hBr:∀j,j<=m->∀i,Bd (ae (RL j) i).natAbs kR
 Q7:lL m<=1
section
variable {Φ:PH}{p q x n m k l n0 k1 k2 kg kR:Nat}{z y g z0 z1 z2:Nat->Int}{n1 n2:Nat}{c:(Nat->Int)×Nat}{L:List Int}
theorem CR {zz:Nat->Nat->Int}{ln:Nat->Nat} (hp:Φ p=bf zz ln k n) (hq:∀w v,Φ q w v->Rw 2 (If (zz n) k) (ln n) w v) (Y:Nat->Prop) (w:World) (v:Value) (h:(Arg.parts (.agg [.s]) [(0,1,q)]).ok Φ Y w v):(Arg.fact p).ok Φ Y w v:=fun w1 hw=>by
 rw [hp]
 obtain ⟨⟨vs,rfl,h1⟩,h2⟩:=h
 match vs,h1 with
 | [s],_=>exact ⟨s,rfl,hq _ _ (h2 (0,1,q) (List.mem_singleton.2 rfl) w1 hw)⟩
theorem oA (hp:∀w v,Φ p w v->Rw 2 (If z k) n w v) (hx:Φ x=Rw 2 (Nf (drv z) (2+k)) m) (hn:n<=1000000) (hk:k<=100000) (hm:tl z n-1=m):ai Φ Tryz.prog ⟨30,[.fact p],[oS x],false⟩:=by
 subst hm
 exact uS hp hx hn hk
theorem CS (hp:∀w v,Φ p w v->Rw 1 (bf (cl z0 z1 z2) (cl n0 n1 n2) k) 2 w v) (hx:Φ x=Rw 2 (Nf c.1 k2) c.2) (h0:n0<=1000) (h1:n1<=1000) (hk:k<=100) (hB0:∀i,Bd ((pri z0 n0).1 i).natAbs k2) (hBc:∀i,Bd (c.1 i).natAbs k2) (hC:fZ (pri z0 n0) (pri z1 n1) k2 k) (hc:cmn (pri z0 n0) (pri z1 n1)=c) :
  ai Φ Tryz.prog ⟨15,[.fact p],[oS x],false⟩:=by
 subst hc
 exact mH hp hx h0 h1 hk hB0 hBc hC
theorem qW (hp:∀w v,Φ p w v->Rw 2 (If z k) n0 w v) (hq:∀w v,Φ q w v->Rw 2 (If c.1 k1) c.2 w v) (hx:Φ x=Rw 2 (Nf g kg) m) (hn0:n0<=1000) (hn1:c.2<=1000) (hk:∀i,Bd (z i).natAbs k) (hk1:∀i,Bd (c.1 i).natAbs k1) (hK:k+(n0+1)*(k1+1)<=90000)
  (hz0:∀i,n0<=i->z i=0) (hzt:tl z n0=n0) (hV:Vz c) (lD:0<c.2) (hm:n0+1-c.2=m) (hg0:∀i,m<=i->g i=0) (hzg:∀i,z i=conv g c.1 i) (hgb:∀i,Bd (g i).natAbs kg) :
  ai Φ Tryz.prog ⟨56,[.fact p,.fact q],[oS x],false⟩:=by
 subst hm
 exact CO hp hq hx hn0 hn1 hk hk1 hK hz0 hzt hV.1 (uU hV) lD hg0 hzg hgb
theorem uX (hp:∀w v,Φ p w v->Rw 2 (If z k) n w v) (hq:∀w v,Φ q w v->Rw 2 (If y l) m w v) (hx:Φ x=Rw 2 (Nf (ae L) kR) L.length) (hn:n<=1000000) (hm:m<=1000000) (hk:k<=200000) (hl:l<=200000)
  (hL:be (mk (max n m) fun i=>upto n z i-upto m y i)=L∧∀i,Bd (ae L i).natAbs kR):ai Φ Tryz.prog ⟨57,[.fact p,.fact q],[oS x],false⟩:=by
 refine aW (Q8 (Φ:=ph [Rw 2 (If z k) n,Rw 2 (If y l) m,Rw 2 (Nf (ae L) (k+l+1)) L.length]) (p:=0) (q:=1) (x:=2) (z:=z) (y:=y) (n:=n) (m:=m) (k:=k) (l:=l) (L:=L) ad ad rfl hn hm hk hl hL.1) ⟨hp,hq,trivial⟩ ⟨⟨rfl,⟨rfl,rfl,fun w v h=>?_⟩,trivial⟩,trivial⟩
 have h':Rw 2 (Nf (ae L) (k+l+1)) L.length w v:=h
 rw [hx]
 exact h'.to fun i w v hi h=>af.re h (hL.2 i)
end
def uY (a:Nat->Int) (n m k kL kR kQ kF:Nat) (Lf:Nat->Nat->Int) (lL:Nat->Nat) (RL:Nat->List Int) (Fz:Nat->jl) (G:jl) (Q0:Nat->Int) (l0:Nat):List WP:=[Rw 2 (If a k) n,Rw 2 (Nf (drv a) (2+k)) (n-1),Rw 1 (bf (cl a (drv a) (drv a)) (cl n (n-1) (n-1)) (2+k)) 2,Rw 2 (Nf G.1 kF) G.2,Rw 2 (Nf (Lf 0) kL) (lL 0),Rw 2 (Nf Q0 kQ) l0,Rw 2 (Nf (drv (Lf 0)) (2+kL)) (lL 0-1),Rw 2 (Nf (ae (RL 0)) kR) ((RL 0).length),dF 28 (fun i=>(Fz i).1) (fun i=>(Fz i).2) kF m]
def Q9 (m k3 kL kR kQ kF:Nat) (Lf Qf:Nat->Nat->Int) (lL lQ:Nat->Nat) (RL:Nat->List Int) (Fz:Nat->jl) (j:Nat):List WP:=[dF 28 (fun i=>(Fz i).1) (fun i=>(Fz i).2) kF j,fun _ _=>True,Rw 2 (Nf (Lf j) kL) (lL j),Rw 2 (Nf (ae (RL j)) kR) ((RL j).length),Ni ((((lL j):Nat):Int)-1),Rw 1 (bf (cl (Lf j) (ae (RL j)) (ae (RL j))) (cl (lL j) ((RL j).length) ((RL j).length)) k3) 2,Rw 2 (Nf ((Fz j).1) kF) ((Fz j).2),bf (fun i=>(Fz i).1) (fun i=>(Fz i).2) kF j,dF 28 (fun i=>(Fz i).1) (fun i=>(Fz i).2) kF (j+1),fun w v=>Rw 2 (fun ι w v=>af w v ((Lf (j+1)) ι) kL) (lL (j+1)) w v,Rw 2 (Nf (Qf j) kQ) (lQ j),fun w v=>Rw 2 (fun ι w v=>af w v ((drv (Lf (j+1))) ι) (2+kL)) (lL (j+1)-1) w v,fun w v=>Rw 2 (fun ι w v=>af w v ((ae (RL (j+1))) ι) kR) ((RL (j+1)).length) w v,Ni ((((lL m):Nat):Int)-1)]
def CT:bg:=⟨[0,2,3,4,9,10,11,12,13,14,15,16,17,18,19,20,21,22,23],[(.slot 7,.s),(.slot 5,.s),(.slot 6,.s)],[(.one 0,.Ru [1] 9),(.one 0,.lo 1),(.one 1,11),(.one 2,12)],[.closed (.one (.nl)),.frm 0,.frm 4,.frm 7],9,[(9,8)]⟩
def CU:List Step:=[.base ⟨49,[.fact 11],[oN 13],false⟩,
   bQ [.fact 13,.lit (.ci .i64 0)] oT (ak .gtr),
   .base ⟨0,[.any,.fact 11,.fact 12],[oS 14],.fresh [] (cj 41 2)⟩,
   .base ⟨15,[.fact 14],[oS 15],false⟩,
   .derive (.agg [.s 29 0]) (.agg [.s]) [(0,1,15)] 16,
   .base ⟨0,[.fact 9,.row 1 [16]],[oS 17],.loose [] 1 0 (fN 41 41)⟩,
   .base ⟨56,[.fact 11,.fact 15],[oS 18],false⟩,
   .base ⟨56,[.fact 12,.fact 15],[oS 19],false⟩,
   .base ⟨30,[.fact 18],[oS 20],false⟩,
   .base ⟨57,[.fact 19,.fact 20],[oS 21],false⟩]
def ZQ:List Step:=[.base ⟨49,[.fact 11],[oN 22],false⟩,
   bQ [.fact 22,.lit (.ci .i64 0)] oF (ak .gtr)]
def Rb:List Step:=[.base ⟨30,[.fact 0],[oS 1],false⟩,
   .base ⟨0,[.any,.fact 0,.fact 1],[oS 2],.fresh [] (cj 41 2)⟩,
   .base ⟨15,[.fact 2],[oS 3],false⟩,
   .base ⟨56,[.fact 0,.fact 3],[oS 4],false⟩,
   .base ⟨56,[.fact 1,.fact 3],[oS 5],false⟩,
   .base ⟨30,[.fact 4],[oS 6],false⟩,
   .base ⟨57,[.fact 5,.fact 6],[oS 7],false⟩,
   .loop CT [(CU,[.frm 17,.frm 0,.frm 18,.frm 21])] ZQ]
def Rc:List Out:=[oS 0]
theorem Rd {a:Nat->Int}{n m k k3 kL kR kQ kF:Nat}{Lf Qf:Nat->Nat->Int}{lL lQ:Nat->Nat}{RL:Nat->List Int}{Fz:Nat->jl}{G:jl}{Q0:Nat->Int}{l0:Nat} (H:kx a n m k k3 kL kR kQ kF Lf Qf lL lQ RL Fz G Q0 l0):ai (ph (uY a n m k kL kR kQ kF Lf lL RL Fz G Q0 l0)) Tryz.prog ⟨22,[.fact 0],[oS 8],false⟩:=by
 have B0:=H.base;have hk:=H.hk;have hk3:=H.hk3;have hkL:=H.hkL;have hkR:=H.hkR;have hkQ:=H.hkQ;have hkF:=H.hkF;have hnn:=B0.hn;have hG0:=B0.hG0;have hGl:=B0.hGl;have h00:=H.hLl 0 (Nat.zero_le m);have h01:=H.hRl 0 (Nat.zero_le m);have Pr:=B0.hl0;have hmm:=H.hm
 exact aV Rc [oS 8] Rb Tryz.func22 (by kernel_rfl)
  (lB (oA (z:=a) (n:=n) (k:=k) (Rw.To 2 (fun ι w v=>aC w v (a ι) k) n (fun _ _ _ _ h=>h)) rfl (by omega) (by omega) (by rw [B0.hat]))
   (lB (ko (fun w v h=>fh ((Rw.To 2 (If a k) n (fun _ _ _ _ h=>h)) w v h) (by omega)) (fun w v h=>fh ((Rw.To 2 (Nf (drv a) (2+k)) (n-1) (fun _ _ _ _ h=>af.i h)) w v h) (by omega)) rfl)
   (lB (CS ad rfl (by omega) (by omega) (by omega) B0.hBp B0.hBf B0.hC B0.hf)
   (lB (qW (g:=(Lf 0)) (z:=a) (n0:=n) (k:=k) (c:=G) (k1:=kF) (m:=(lL 0)) (Rw.To 2 (If a k) n (fun _ _ _ _ h=>h)) (Rw.To 2 (Nf G.1 kF) G.2 (fun _ _ _ _ h=>af.i h)) rfl (by omega) (by omega) B0.hBa B0.hBf (qV (by omega) (by omega)) B0.ha0 B0.hat B0.hV B0.hG0 B0.hLm (H.hL0 0 (Nat.zero_le m)) B0.hLq (H.hBl 0 (Nat.zero_le m)))
   (lB (qW (g:=Q0) (z:=(drv a)) (n0:=(n-1)) (k:=(2+k)) (c:=G) (k1:=kF) (m:=l0) (Rw.To 2 (Nf (drv a) (2+k)) (n-1) (fun _ _ _ _ h=>af.i h)) (Rw.To 2 (Nf G.1 kF) G.2 (fun _ _ _ _ h=>af.i h)) rfl (by omega) (by omega) B0.hBs B0.hBf (qV (by omega) (by omega)) B0.hs0 B0.hst B0.hV B0.hG0 B0.hQm B0.hQ0 B0.hQq B0.hBq)
   (lB (oA (z:=(Lf 0)) (n:=(lL 0)) (k:=kL) (Rw.To 2 (fun ι w v=>af w v ((Lf 0) ι) kL) (lL 0) (fun _ _ _ _ h=>af.i h)) rfl (by omega) (by omega) (by rw [H.hLt 0 (Nat.zero_le m)]))
   (lB (uX (p:=5) (q:=6) (z:=Q0) (n:=l0) (k:=kQ) (y:=(drv (Lf 0))) (m:=(lL 0-1)) (l:=(2+kL)) (Rw.To 2 (Nf Q0 kQ) l0 (fun _ _ _ _ h=>af.i h)) (Rw.To 2 (Nf (drv (Lf 0)) (2+kL)) (lL 0-1) (fun _ _ _ _ h=>af.i h)) rfl (by omega) (by omega) (by omega) (by omega) (B0.hR (H.hBr 0 (Nat.zero_le m))))
   (bz (counted m (fun j=>ph (uY a n m k kL kR kQ kF Lf lL RL Fz G Q0 l0 ++ Q9 m k3 kL kR kQ kF Lf Qf lL lQ RL Fz j)) (fun _=>0) (fun j p hp=>bB (show p<(uY a n m k kL kR kQ kF Lf lL RL Fz G Q0 l0).length from hp)) ⟨fun w=>dF.nil 28 (fun i=>(Fz i).1) (fun i=>(Fz i).2) kF w,aS,ad,ad,trivial⟩ (fun j hj=>by
   have R:=H.rd j hj;have h1:=H.hLl j (by omega);have h2:=H.hLl (j+1) (by omega);have h3:=H.hRl j (by omega);have h4:=H.hRl (j+1) (by omega);have h5:=R.hd;have h6:=R.hFl;have h7:=R.hQm;have h8:=R.hF0;have h9:=R.hlQ
   exact ⟨(CU,[.frm 17,.frm 0,.frm 18,.frm 21]),rfl,⟨ad,aS,ad,ad,trivial⟩,(lB (iL (n:=(lL j)) (fun _ _ h=>Rw.iM (sz:=2) (F:=(Nf (Lf j) kL)) (n:=(lL j)) h) rfl (by omega) (rfl))
   (lB (d3 ad)
   (lB (ko (fun w v h=>fh ((Rw.To 2 (Nf (Lf j) kL) (lL j) (fun _ _ _ _ h=>af.i h)) w v h) (by omega)) (fun w v h=>fh ((Rw.To 2 (Nf (ae (RL j)) kR) ((RL j).length) (fun _ _ _ _ h=>af.i h)) w v h) (by omega)) rfl)
   (lB (CS ad rfl (by omega) (by omega) (by omega) R.hBp R.hBf R.hC R.hf)
   (ec (CR (zz:=fun i=>(Fz i).1) (ln:=fun i=>(Fz i).2) (k:=kF) (n:=j) rfl (Rw.To 2 (Nf ((Fz j).1) kF) ((Fz j).2) (fun _ _ _ _ h=>af.i h)))
   (lB (CV (n:=j) (k:=kF) (zz:=fun i=>(Fz i).1) (ln:=fun i=>(Fz i).2) ad ad (by omega) rfl)
   (lB (qW (g:=(Lf (j+1))) (z:=(Lf j)) (n0:=(lL j)) (k:=kL) (c:=(Fz j)) (k1:=kF) (m:=(lL (j+1))) (Rw.To 2 (Nf (Lf j) kL) (lL j) (fun _ _ _ _ h=>af.i h)) (Rw.To 2 (Nf ((Fz j).1) kF) ((Fz j).2) (fun _ _ _ _ h=>af.i h)) rfl (by omega) (by omega) (H.hBl j (by omega)) R.hBf (qV (by omega) (by omega)) (H.hL0 j (by omega)) (H.hLt j (by omega)) R.hV R.hF0 R.hLm (H.hL0 (j+1) (by omega)) R.hLq (H.hBl (j+1) (by omega)))
   (lB (qW (g:=(Qf j)) (z:=(ae (RL j))) (n0:=(RL j).length) (k:=kR) (c:=(Fz j)) (k1:=kF) (m:=(lQ j)) (Rw.To 2 (Nf (ae (RL j)) kR) ((RL j).length) (fun _ _ _ _ h=>af.i h)) (Rw.To 2 (Nf ((Fz j).1) kF) ((Fz j).2) (fun _ _ _ _ h=>af.i h)) rfl (by omega) (by omega) (H.hBr j (by omega)) R.hBf (qV (by omega) (by omega)) (fun i hi=>dC hi) (H.hRt j (by omega)) R.hV R.hF0 R.hQm R.hQ0 R.hQq R.hBq)
   (lB (oA (z:=(Lf (j+1))) (n:=(lL (j+1))) (k:=kL) (Rw.To 2 (fun ι w v=>af w v ((Lf (j+1)) ι) kL) (lL (j+1)) (fun _ _ _ _ h=>af.i h)) rfl (by omega) (by omega) (by rw [H.hLt (j+1) (by omega)]))
   (lB (uX (p:=19) (q:=20) (z:=(Qf j)) (n:=(lQ j)) (k:=kQ) (y:=(drv (Lf (j+1)))) (m:=(lL (j+1)-1)) (l:=(2+kL)) (Rw.To 2 (Nf (Qf j) kQ) (lQ j) (fun _ _ _ _ h=>af.i h)) (Rw.To 2 (fun ι w v=>af w v ((drv (Lf (j+1))) ι) (2+kL)) (lL (j+1)-1) (fun _ _ _ _ h=>af.i h)) rfl (by omega) (by omega) (by omega) (by omega) (R.hR (H.hBr (j+1) (by omega))))
   aw))))))))))⟩)
   (by
   have hl1:=H.Q7;have hl2:=H.hLl m (Nat.le_refl m)
   exact (lB (iL (n:=(lL (m))) (fun _ _ h=>Rw.iM (sz:=2) (F:=(Nf (Lf (m)) kL)) (n:=(lL (m))) h) rfl (by omega) (rfl))
   (lB (jW ad)
   aw)))
   (fun q hq w v h=>by
    simp only [CT,List.mem_cons,List.not_mem_nil,or_false] at hq
    rcases hq with rfl
    ·exact (fun h=>h) h)) aw))))))))
  (aL [.fact 0 (.one (.s))] ⟨Rw.Is 2 (If a k) n,trivial⟩) bc
section
variable {Φ:PH}{p x n m k k3 kL kR kQ kF l0:Nat}{a Q0:Nat->Int}{Lf Qf:Nat->Nat->Int}{lL lQ:Nat->Nat}{RL:Nat->List Int}{Fz:Nat->(Nat->Int)×Nat}{G:(Nat->Int)×Nat}
theorem CW (hp:∀w v,Φ p w v->Rw 2 (If a k) n w v) (hx:Φ x=Rw 1 (bf (fun i=>(Fz i).1) (fun i=>(Fz i).2) kF) m) (H:kx a n m k k3 kL kR kQ kF Lf Qf lL lQ RL Fz G Q0 l0) :
  ai Φ Tryz.prog ⟨22,[.fact p],[oS x],false⟩:=
 aW (Rd H) ⟨hp,trivial⟩ ⟨⟨rfl,⟨rfl,rfl,fun _ _ h=>hx▸dF.rw (e:=28) h⟩,trivial⟩,trivial⟩
end
end Go.Proofs.YtbokonbbokhjlaaGreat.Sym
