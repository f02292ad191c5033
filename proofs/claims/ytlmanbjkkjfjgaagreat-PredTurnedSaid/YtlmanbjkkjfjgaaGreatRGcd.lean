/- The reference's Derive a -/
import Derived.Test.YtlmanbjkkjfjgaaGreatPrW
set_option maxRecDepth 100000
namespace Go.Proofs.YtlmanbjkkjfjgaaGreat.Sym
open Go.Proofs.Tryz
open Go.RowKit
variable {L:List Int}{y z:Int}{K k kk kt l m n x:Nat}{t:Rat}{Φ:PH}{b:Nat->Int}
abbrev aS:cC:=.agg [.s,.s,.s,.b,.s,.b,.s,.b,.s,.b]
def fw (L:List Int):List Int:=mk (L.length-1) λi=>ae L (i+1)*(((i+1:Nat)):Int)
def dfI:Nat->List Int->List Int
 | 0,L=>L
 | j+1,L=>fw (dfI j L)
def sgA (L:List Int) (t:Rat):Int:=cK (gN (ae L) L.length t.num ((t.den:Nat):Int) L.length) 0
theorem pn (L:List Int):(fw L).length=L.length-1:=dc _ _
theorem pp (L:List Int):∀j,(dfI j L).length=L.length-j
 | 0=>rfl
 | j+1=>by rw [dfI,pn,pp L j];omega
theorem IM  (h:ct L):ct (fw L):=λh0=>by rw [pn] at h0 ⊢;rw [fw,cU,if_pos (by omega),show L.length-1-1+1=L.length-1 by omega];exact Int.mul_ne_zero (h (by omega)) (by omega)
theorem IN {L:List Int} (h:ct L):∀j,ct (dfI j L)
 | 0=>h
 | j+1=>IM (IN h j)
theorem aaw (t:Rat):mf t t=0:=by unfold mf;simp
def yO (z:Nat->Int) (n k K:Nat):List WP:=[Rw 4 (Zf z k) n,λw v=>aA 4 57 (λι w v=>ah w v ((((z (ι+1)*(((ι+1):Nat):Int)):Int):Rat)) K) (n-1) w v,λw v=>Rw 4 (λι w v=>ah w v ((((z (ι+1)*(((ι+1):Nat):Int)):Int):Rat)) K) (tl (λι=>((((z (ι+1)*(((ι+1):Nat):Int)):Int):Rat)).num) (n-1)) w v]
def aax (z:Nat->Int) (n k K:Nat) (j:Nat):List WP:=[Nz (j+1),λw v=>aA 4 57 (λι w v=>ah w v ((((z (ι+1)*(((ι+1):Nat):Int)):Int):Rat)) K) j w v,λ_ _=>True,Nz n,Ptr 4 (Dw (((z (j+1):Int):Rat)) k),Dw (((z (j+1):Int):Rat)) k,Dw (aH (((j+1):Nat):Int) 1) 6,Jw ((aH (((j+1):Nat):Int) 1).num) 6,Jw ((aH (((j+1):Nat):Int) 1).den:Int) 6,Dw ((((z (j+1):Int):Rat))*(aH (((j+1):Nat):Int) 1)) (2*(k+6)+2),Jw (((((z (j+1):Int):Rat))*(aH (((j+1):Nat):Int) 1)).num) (2*(k+6)+2),Jw (((((z (j+1):Int):Rat))*(aH (((j+1):Nat):Int) 1)).den:Int) (2*(k+6)+2),λw v=>aA 4 57 (λι w v=>ah w v ((((z (ι+1)*(((ι+1):Nat):Int)):Int):Rat)) K) (j+1) w v,Nz (j+1+1),Nz n]
def IP:bp:=⟨[0,2],[(.slot 4,.i),(.slot 3,.s)],[(.one 0,3),(.one 1,.cM [1] 4),(.one 1,.lo 1)],[.closed (.one (Ai 1)),.closed (.one (.nl)),.frm 0],3,[(4,1)]⟩
def IQ:List Step:=[bQ [0] [oN 6] (aC 38),bQ [3,6] oT (am .lss),bQ [0,3] [oP 7] (adK 38),bQ [7] [oQ 8] (aQ 57),
   cB 41 [3,.lit (Ai 1)] [⟨.agg [.s,.b,.s,.b],[(0,0,9),(0,2,10),(2,2,11)]⟩],
   cB 95 [8,9] [⟨.agg [.s,.b,.s,.b],[(0,0,12),(0,2,13),(2,2,14)]⟩],.base ⟨0,[4,.row 4 [12]],[oS 15],.loose [] 1 0 (cA 38 38)⟩,bQ [3,.lit (Ai 1)] [oN 16] (am .add)]
def aay:List Step:=[bQ [0] [oN 17] (aC 38),bQ [3,17] oF (am .lss)]
def aaz:List Step:=[.loop IP [(IQ,[.frm 16,.frm 15,.frm 0])] aay,.base ⟨42,[1],[oS 2],.dR [1] false⟩]
def aaA:List Out:=[oS 0]
theorem aaB {z:Nat->Int} (hn:n<=1000000) (hk:k<=8000) (hK:K<=400000) (hB:∀j,j<n-1->Bd (((z (j+1)*(((j+1):Nat):Int)):Int):Rat).num.natAbs K∧Bd (((z (j+1)*(((j+1):Nat):Int)):Int):Rat).den K):aj (ph (yO z n k K)) prog ⟨56,[0],[oS 2],false⟩:=adL aaA [oS 2] aaz func56 (by kernel_rfl) (bN (counted (n-1) (λj=>ph (yO z n k K ++ aax z n k K j)) (λ_=>0) (λ_ p hp=>bO (show p<(yO z n k K).length from hp)) ⟨λ_=>rfl,λw=>aA.nil 4 57 (λι w v=>ah w v ((((z (ι+1)*(((ι+1):Nat):Int)):Int):Rat)) K) w,bI,trivial⟩ (λj _=>by
   skip
   exact ⟨(IQ,[.frm 16,.frm 15,.frm 0]),rfl,⟨ad,ad,bI,trivial⟩,(lB (aM (F:=(Zf z k)) underlying38 ad rfl) (lB (bK ad ad) (lB (bw (i:=(j+1)) (F:=(Zf z k)) underlying38 ad ad rfl) (lB (bT (sz:=4) (F:=Dw (((z (j+1):Int):Rat)) k) ad (λ_ _ _ g h=>ah.kp h g) (λ_ _ h=>ah.is h) rfl) (lB (Iu (y:=1) ad rfl rfl rfl (by omega) (by omega) rfl) (lB (wP tS tS rfl rfl rfl rfl) (lB (mJ (n:=j) (F:=(λι w v=>ah w v ((((z (ι+1)*(((ι+1):Nat):Int)):Int):Rat)) K)) (λ_ _ _ _ g h=>ah.kp h g) ad (λ_ _ h=>ah.dm (ah.eq h (by rw [gg,<- Rat.intCast_mul])) (hB j (by omega)).1 (hB j (by omega)).2) (λ_ _ h=>ah.dQ h) rfl) (lB (ch ad rfl) au))))))))⟩) (lB (aM (F:=(Zf z k)) underlying38 ad rfl) (lB (tlF ad ad) au))
   (poC (λ_ _ h=>(λh=>h) h) poN)) (lB (eS [1] (mV (q:=(λι=>(((z (ι+1)*(((ι+1):Nat):Int)):Int):Rat))) (n:=(n-1)) (k:=K) (λ_ _ h=>aA.rw h) rfl)) au))
  (aP [.fact 0 (.one (.s))] ⟨Rw.Is 4 (Zf z k) n,trivial⟩) aV
section
variable {p q r:Nat}
theorem yP (hp:∀w v,Φ p w v->Rw 4 (λi w v=>ah w v ((ae L i:Int):Rat) k) L.length w v) (hx:Φ x=λw v=>Rw 4 (λi w v=>ah w v ((ae (fw L) i:Int):Rat) K) (fw L).length w v) (hl:L.length<=1000) (hN:ct L) (hK1:1<=K) (hB:∀i,Bd (ae (fw L) i).natAbs K) (hk:k<=8000∧K<=400000:=by omega):aj Φ prog ⟨56,[.fact p],[oS x],false⟩:=by
 have hc:∀i,i<L.length-1->ae (fw L) i=ae L (i+1)*(((i+1:Nat)):Int):=λi hi=>by rw [fw,cU,if_pos hi]
 refine aU (aaB (z:=ae L) (n:=L.length) (k:=k) (K:=K) (by omega) hk.1 hk.2 λj hj=>⟨?_,dV hK1⟩) ⟨hp,trivial⟩ ⟨⟨rfl,⟨rfl,rfl,λw v h=>?_⟩,trivial⟩,trivial⟩
 ·have:=hB j;rw [hc j hj] at this;exact this
 ·have hT:tl (λi=>((ae L (i+1)*(((i+1:Nat)):Int):Int):Rat).num) (L.length-1)=L.length-1:=gw λ_=>by
   have:=IM hN (by rwa [pn]);rw [pn,hc _ (by omega)] at this;exact this
  have h':Rw 4 (λi w v=>ah w v ((ae L (i+1)*(((i+1:Nat)):Int):Int):Rat) K) (tl (λi=>((ae L (i+1)*(((i+1:Nat)):Int):Int):Rat).num) (L.length-1)) w v:=h;rw [hT] at h';rw [hx,pn];exact Rw.to (sz:=4) (n:=L.length-1) h' λi _ _ hi h=>by rw [hc i hi];exact h
end
def aaC (t:Rat) (kt:Nat):List WP:=[Dw t kt,Dw t kt]
def aaD:List Step:=[cB 130 [0,1] [oL (Ai 0)]]
def aaE:List Out:=[⟨.agg [.s,.s,.s,.b,.s,.b,.s,.b,.s,.b],[(2,4,0),(6,4,1)]⟩]
theorem aaF  (hk:kt<=1000):aj (ph (aaC t kt)) prog ⟨91,[.parts (.agg [.s,.s,.s,.b,.s,.b,.s,.b,.s,.b]) [(2,4,0),(6,4,1)]],oT,false⟩:=adL aaE oT aaD func91 (by kernel_rfl) (lB (YK tS tS (aaw t)) au)
  (aP [.parts (.agg [.s,.s,.s,.b,.s,.b,.s,.b,.s,.b]) [(2,4,0),(6,4,1)]] ⟨trivial,trivial⟩) aV
section
variable {p q r:Nat}
theorem yQ (hq:Im Φ q (Dw t kt)) (hr:Im Φ r (Dw t kt)) (hk:kt<=1000:=by omega):aj Φ prog ⟨91,[.parts aS [(2,4,q),(6,4,r)]],oT,false⟩:=
 aU (aaF (t:=t) hk) ⟨⟨rfl,⟨rfl,rfl,hq⟩,⟨rfl,rfl,hr⟩,trivial⟩,trivial⟩ ⟨⟨rfl,trivial⟩,trivial⟩
end
def aaG (L:List Int) (t:Rat) (k kt:Nat):List WP:=[Rw 4 (Zf (ae L) k) L.length,Dw t kt,Dw t kt,Ni ((L.length:Nat):Int),Ni (cK (gN (ae L) L.length t.num ((t.den:Nat):Int) L.length) 0)]
def aaH:List Step:=[bQ [0] [oN 3] (aC 38),bQ [3,.lit (Ai 0)] oF (am .eql),
   cB 91 [.parts aS [(2,4,1),(6,4,2)]] oT,
   cB 92 [0,1] [oN 4],bQ [4,.lit (Ai 0)] oT (am .eql)]
def aaI:List Out:=[oS 0,⟨.agg [.s,.s,.s,.b,.s,.b,.s,.b,.s,.b],[(2,4,1),(6,4,2)]⟩]
theorem aaJ  (hl:L.length<=1000) (h0:0<L.length) (hk:k<=9000) (hkt:kt<=100) (hkk:kk<=1000) (hG:∀j,j<=L.length->Bd (gN (ae L) L.length t.num ((t.den:Nat):Int) j).natAbs kk∧Bd (((t.den:Nat):Int) ^ j).natAbs kk) (hs:(cK (gN (ae L) L.length t.num ((t.den:Nat):Int) L.length) 0)=0):aj (ph (aaG L t k kt)) prog ⟨90,[0,.parts (.agg [.s,.s,.s,.b,.s,.b,.s,.b,.s,.b]) [(2,4,1),(6,4,2)]],oT,false⟩:=adL aaI oT aaH func90 (by kernel_rfl) (lB (aM (F:=(Zf (ae L) k)) underlying38 ad rfl) (lB (iL ad) (lB (yQ (t:=t) (kt:=kt) ad ad) (lB (yD (z:=ae L) (n:=L.length) (r:=t) (kr:=kt) (kk:=kk) ad ad rfl hG) (lB (cn (op:=.eql) ad (bz (decide_eq_true hs) (by simp))) au)))))
  (aP [.fact 0 (.one (.s)),.parts (.agg [.s,.s,.s,.b,.s,.b,.s,.b,.s,.b]) [(2,4,1),(6,4,2)]] ⟨Rw.Is 4 (Zf (ae L) k) L.length,trivial,trivial⟩) aV
def aaK (L:List Int) (t:Rat) (k kt:Nat):List WP:=[Rw 4 (Zf (ae L) k) L.length,Dw t kt,Dw t kt,Ni ((L.length:Nat):Int),Ni (cK (gN (ae L) L.length t.num ((t.den:Nat):Int) L.length) 0)]
def aaL:List Step:=[bQ [0] [oN 3] (aC 38),bQ [3,.lit (Ai 0)] oF (am .eql),
   cB 91 [.parts aS [(2,4,1),(6,4,2)]] oT,
   cB 92 [0,1] [oN 4],bQ [4,.lit (Ai 0)] oF (am .eql)]
def aaM:List Out:=[oS 0,⟨.agg [.s,.s,.s,.b,.s,.b,.s,.b,.s,.b],[(2,4,1),(6,4,2)]⟩]
theorem aaN  (hl:L.length<=1000) (h0:0<L.length) (hk:k<=9000) (hkt:kt<=100) (hkk:kk<=1000) (hG:∀j,j<=L.length->Bd (gN (ae L) L.length t.num ((t.den:Nat):Int) j).natAbs kk∧Bd (((t.den:Nat):Int) ^ j).natAbs kk) (hs:(cK (gN (ae L) L.length t.num ((t.den:Nat):Int) L.length) 0)≠0):aj (ph (aaK L t k kt)) prog ⟨90,[0,.parts (.agg [.s,.s,.s,.b,.s,.b,.s,.b,.s,.b]) [(2,4,1),(6,4,2)]],oF,false⟩:=adL aaM oF aaL func90 (by kernel_rfl) (lB (aM (F:=(Zf (ae L) k)) underlying38 ad rfl) (lB (iL ad) (lB (yQ (t:=t) (kt:=kt) ad ad) (lB (yD (z:=ae L) (n:=L.length) (r:=t) (kr:=kt) (kk:=kk) ad ad rfl hG) (lB (cn (op:=.eql) ad (bz (decide_eq_false hs) (by simp))) au)))))
  (aP [.fact 0 (.one (.s)),.parts (.agg [.s,.s,.s,.b,.s,.b,.s,.b,.s,.b]) [(2,4,1),(6,4,2)]] ⟨Rw.Is 4 (Zf (ae L) k) L.length,trivial,trivial⟩) aV
section
variable {p q r:Nat}
theorem aaO (hp:∀w v,Φ p w v->Rw 4 (λι w v=>ah w v ((ae L ι:Int):Rat) k) L.length w v) (hq:Im Φ q (Dw t kt)) (hr:Im Φ r (Dw t kt)) (hl:L.length<=1000) (h0:0<L.length) (hk:k<=9000) (hkt:kt<=100) (hkk:kk<=1000) (hG:∀j,j<=L.length->Bd (gN (ae L) L.length t.num ((t.den:Nat):Int) j).natAbs kk∧Bd (((t.den:Nat):Int) ^ j).natAbs kk) (hs:sgA L t=0):aj Φ prog ⟨90,[.fact p,.parts aS [(2,4,q),(6,4,r)]],oT,false⟩:=
 aU (aaJ hl h0 hk hkt hkk hG hs) ⟨hp,⟨rfl,⟨rfl,rfl,hq⟩,⟨rfl,rfl,hr⟩,trivial⟩,trivial⟩ ⟨⟨rfl,trivial⟩,trivial⟩
theorem aaP (hp:∀w v,Φ p w v->Rw 4 (λι w v=>ah w v ((ae L ι:Int):Rat) k) L.length w v) (hq:Im Φ q (Dw t kt)) (hr:Im Φ r (Dw t kt)) (hl:L.length<=1000) (h0:0<L.length) (hk:k<=9000) (hkt:kt<=100) (hkk:kk<=1000) (hG:∀j,j<=L.length->Bd (gN (ae L) L.length t.num ((t.den:Nat):Int) j).natAbs kk∧Bd (((t.den:Nat):Int) ^ j).natAbs kk) (hs:sgA L t≠0):aj Φ prog ⟨90,[.fact p,.parts aS [(2,4,q),(6,4,r)]],oF,false⟩:=
 aU (aaN hl h0 hk hkt hkk hG hs) ⟨hp,⟨rfl,⟨rfl,rfl,hq⟩,⟨rfl,rfl,hr⟩,trivial⟩,trivial⟩ ⟨⟨rfl,trivial⟩,trivial⟩
end
def aaQ (L:List Int) (t:Rat) (k kt:Nat):List WP:=[Rw 4 (Zf (ae L) k) L.length,Dw t kt,Dw t kt]
def aaR:List Step:=[cB 90 [0,.parts aS [(2,4,1),(6,4,2)]] oT]
def aaS:List Out:=[oS 0,⟨.agg [.s,.s,.s,.b,.s,.b,.s,.b,.s,.b],[(2,4,1),(6,4,2)]⟩]
theorem aaT  (hl:L.length<=1000) (h0:0<L.length) (hk:k<=9000) (hkt:kt<=100) (hkk:kk<=1000) (hG:∀j,j<=L.length->Bd (gN (ae L) L.length t.num ((t.den:Nat):Int) j).natAbs kk∧Bd (((t.den:Nat):Int) ^ j).natAbs kk) (hs:(cK (gN (ae L) L.length t.num ((t.den:Nat):Int) L.length) 0)=0):aj (ph (aaQ L t k kt)) prog ⟨55,[0,.parts (.agg [.s,.s,.s,.b,.s,.b,.s,.b,.s,.b]) [(2,4,1),(6,4,2)]],[oL (Ai 0)],false⟩:=adL aaS [oL (Ai 0)] aaR func55 (by kernel_rfl) (lB (aaO (kt:=kt) ad ad ad hl h0 hk hkt hkk hG hs) au)
  (aP [.fact 0 (.one (.s)),.parts (.agg [.s,.s,.s,.b,.s,.b,.s,.b,.s,.b]) [(2,4,1),(6,4,2)]] ⟨Rw.Is 4 (Zf (ae L) k) L.length,trivial,trivial⟩) aV
def aaU (L:List Int) (t:Rat) (k kt:Nat):List WP:=[Rw 4 (Zf (ae L) k) L.length,Dw t kt,Dw t kt,Ni (cK (gN (ae L) L.length t.num ((t.den:Nat):Int) L.length) 0)]
def aaV:List Step:=[cB 90 [0,.parts aS [(2,4,1),(6,4,2)]] oF,
   cB 91 [.parts aS [(2,4,1),(6,4,2)]] oT,
   cB 92 [0,1] [oN 3]]
def aaW:List Out:=[oS 0,⟨.agg [.s,.s,.s,.b,.s,.b,.s,.b,.s,.b],[(2,4,1),(6,4,2)]⟩]
theorem aaX  (hl:L.length<=1000) (h0:0<L.length) (hk:k<=9000) (hkt:kt<=100) (hkk:kk<=1000) (hG:∀j,j<=L.length->Bd (gN (ae L) L.length t.num ((t.den:Nat):Int) j).natAbs kk∧Bd (((t.den:Nat):Int) ^ j).natAbs kk) (hs:(cK (gN (ae L) L.length t.num ((t.den:Nat):Int) L.length) 0)≠0):aj (ph (aaU L t k kt)) prog ⟨55,[0,.parts (.agg [.s,.s,.s,.b,.s,.b,.s,.b,.s,.b]) [(2,4,1),(6,4,2)]],[oN 3],false⟩:=adL aaW [oN 3] aaV func55 (by kernel_rfl) (lB (aaP (kt:=kt) ad ad ad hl h0 hk hkt hkk hG hs) (lB (yQ (t:=t) (kt:=kt) ad ad) (lB (yD (z:=ae L) (n:=L.length) (r:=t) (kr:=kt) (kk:=kk) ad ad rfl hG) au)))
  (aP [.fact 0 (.one (.s)),.parts (.agg [.s,.s,.s,.b,.s,.b,.s,.b,.s,.b]) [(2,4,1),(6,4,2)]] ⟨Rw.Is 4 (Zf (ae L) k) L.length,trivial,trivial⟩) aV
section
variable {p q r:Nat}
theorem IR (hp:∀w v,Φ p w v->Rw 4 (λι w v=>ah w v ((ae L ι:Int):Rat) k) L.length w v) (hq:Im Φ q (Dw t kt)) (hr:Im Φ r (Dw t kt)) (hl:L.length<=1000) (h0:0<L.length) (hG:∀j,j<=L.length->Bd (gN (ae L) L.length t.num ((t.den:Nat):Int) j).natAbs kk∧Bd (((t.den:Nat):Int) ^ j).natAbs kk) (hs:sgA L t=0) (hk:k<=9000:=by omega) (hkt:kt<=100:=by omega) (hkk:kk<=1000:=by omega):aj Φ prog ⟨55,[.fact p,.parts aS [(2,4,q),(6,4,r)]],[oL (Ai 0)],false⟩:=
 aU (aaT hl h0 hk hkt hkk hG hs) ⟨hp,⟨rfl,⟨rfl,rfl,hq⟩,⟨rfl,rfl,hr⟩,trivial⟩,trivial⟩ ⟨⟨rfl,trivial⟩,trivial⟩
theorem aaY (hp:∀w v,Φ p w v->Rw 4 (λι w v=>ah w v ((ae L ι:Int):Rat) k) L.length w v) (hq:Im Φ q (Dw t kt)) (hr:Im Φ r (Dw t kt)) (hx:Φ x=Ni (sgA L t)) (hl:L.length<=1000) (h0:0<L.length) (hG:∀j,j<=L.length->Bd (gN (ae L) L.length t.num ((t.den:Nat):Int) j).natAbs kk∧Bd (((t.den:Nat):Int) ^ j).natAbs kk) (hs:sgA L t≠0) (hk:k<=9000:=by omega) (hkt:kt<=100:=by omega) (hkk:kk<=1000:=by omega):aj Φ prog ⟨55,[.fact p,.parts aS [(2,4,q),(6,4,r)]],[oN x],false⟩:=
 aU (aaX hl h0 hk hkt hkk hG hs) ⟨hp,⟨rfl,⟨rfl,rfl,hq⟩,⟨rfl,rfl,hr⟩,trivial⟩,trivial⟩ ⟨⟨rfl,⟨rfl,rfl,λ_ _ h=>hx▸h⟩,trivial⟩,trivial⟩
end
def yR (L:List Int) (t:Rat) (m K kt:Nat):List WP:=[Rw 4 (Zf (ae (dfI 0 L)) K) ((dfI 0 L).length),Dw t kt,Dw t kt,Ni (sgA (dfI m L) t)]
def aaZ (L:List Int) (t:Rat) (K:Nat) (j:Nat):List WP:=[Rw 4 (Zf (ae (dfI j L)) K) (dfI j L).length,Ni (((dfI j L).length:Nat):Int),Rw 4 (Zf (ae (dfI (j+1) L)) K) ((dfI (j+1) L).length),Ni (((dfI j L).length:Nat):Int),Ni (sgA (dfI j L) t)]
def IS:bp:=⟨[1,3,4],[(.slot 0,.s)],[(.one 0,4)],[.frm 0],4,[(8,3)]⟩
def IT:List Step:=[bQ [4] [oN 5] (aC 38),bQ [5,.lit (Ai 0)] oT (am .gtr),
   cB 55 [4,.parts aS [(2,4,1),(6,4,2)]] [oL (Ai 0)],
   cB 56 [4] [oS 6]]
def aa0:List Step:=[bQ [4] [oN 7] (aC 38),bQ [7,.lit (Ai 0)] oT (am .gtr),
   cB 55 [4,.parts aS [(2,4,1),(6,4,2)]] [oN 8],bQ [8,.lit (Ai 0)] oT (am .neq)]
def aa1:List Step:=[.loop IS [(IT,[.frm 6])] aa0]
def aa2:List Out:=[oS 0,⟨.agg [.s,.s,.s,.b,.s,.b,.s,.b,.s,.b],[(2,4,1),(6,4,2)]⟩]
theorem aa3  (hN:∀j,j<=m->(dfI j L).length<=1000∧ct (dfI j L)∧∀i,Bd (ae (dfI j L) i).natAbs K) (hK:K<=4000) (hK1:1<=K) (hkt:kt<=100) (hkk:kk<=1000) (hG:∀j,j<=m->∀i,i<=(dfI j L).length->Bd (gN (ae (dfI j L)) (dfI j L).length t.num ((t.den:Nat):Int) i).natAbs kk∧Bd (((t.den:Nat):Int) ^ i).natAbs kk) (hs:∀j,j<m->sgA (dfI j L) t=0) (hm:m<L.length) (hsm:sgA (dfI m L) t≠0):aj (ph (yR L t m K kt)) prog ⟨22,[0,.parts (.agg [.s,.s,.s,.b,.s,.b,.s,.b,.s,.b]) [(2,4,1),(6,4,2)]],[oN 3],false⟩:=by
 have hP:∀j,(dfI j L).length=L.length-j:=pp L;exact adL aa2 [oN 3] aa1 func22 (by kernel_rfl) (bN (counted m (λj=>ph (yR L t m K kt ++ aaZ L t K j)) (λ_=>0) (λ_ p hp=>bO (show p<(yR L t m K kt).length from hp)) ⟨ad,trivial⟩ (λj hj=>by
   skip
   exact ⟨(IT,[.frm 6]),rfl,⟨ad,trivial⟩,(lB (aM (F:=(Zf (ae (dfI j L)) K)) underlying38 ad rfl) (lB (cn (op:=.gtr) ad (bz (decide_eq_true (by have:=hP j;omega)) (by simp))) (lB (IR (L:=(dfI j L)) (t:=t) (k:=K) (kt:=kt) (kk:=kk) ad ad ad (hN j (by omega)).1 (by have:=hP j;omega) (hG j (by omega)) (hs j hj)) (lB (yP (L:=(dfI j L)) (k:=K) (K:=K) ad rfl (hN j (by omega)).1 (hN j (by omega)).2.1 hK1 (hN (j+1) (by omega)).2.2) au))))⟩) (lB (aM (F:=(Zf (ae (dfI (m) L)) K)) underlying38 ad rfl) (lB (cn (op:=.gtr) ad (bz (decide_eq_true (by have:=hP m;omega)) (by simp))) (lB (aaY (L:=(dfI (m) L)) (t:=t) (k:=K) (kt:=kt) (kk:=kk) ad ad ad rfl (hN (m) (by omega)).1 (by have:=hP (m);omega) (hG (m) (by omega)) (hsm)) (lB (cn (op:=.neq) ad (bz (decide_eq_true hsm) (by simp))) au))))
   (poC (λ_ _ h=>(λh=>h) h) poN)) au)
  (aP [.fact 0 (.one (.s)),.parts (.agg [.s,.s,.s,.b,.s,.b,.s,.b,.s,.b]) [(2,4,1),(6,4,2)]] ⟨Rw.Is 4 (Zf (ae (dfI 0 L)) K) ((dfI 0 L).length),trivial,trivial⟩) aV
def yS (L:List Int) (t:Rat) (K kt:Nat):List WP:=[Rw 4 (Zf (ae (dfI 0 L)) K) ((dfI 0 L).length),Dw t kt,Dw t kt]
def aa4 (L:List Int) (K:Nat) (j:Nat):List WP:=[Rw 4 (Zf (ae (dfI j L)) K) (dfI j L).length,Ni (((dfI j L).length:Nat):Int),Rw 4 (Zf (ae (dfI (j+1) L)) K) ((dfI (j+1) L).length),Ni (((dfI j L).length:Nat):Int)]
def aa5:bp:=⟨[1,3,4],[(.slot 0,.s)],[(.one 0,3)],[.frm 0],3,[]⟩
def IU:List Step:=[bQ [3] [oN 4] (aC 38),bQ [4,.lit (Ai 0)] oT (am .gtr),
   cB 55 [3,.parts aS [(2,4,1),(6,4,2)]] [oL (Ai 0)],
   cB 56 [3] [oS 5]]
def aa6:List Step:=[bQ [3] [oN 6] (aC 38),bQ [6,.lit (Ai 0)] oF (am .gtr)]
def aa7:List Step:=[.loop aa5 [(IU,[.frm 5])] aa6]
def aa8:List Out:=[oS 0,⟨.agg [.s,.s,.s,.b,.s,.b,.s,.b,.s,.b],[(2,4,1),(6,4,2)]⟩]
theorem aa9  (hN:∀j,j<=m->(dfI j L).length<=1000∧ct (dfI j L)∧∀i,Bd (ae (dfI j L) i).natAbs K) (hK:K<=4000) (hK1:1<=K) (hkt:kt<=100) (hkk:kk<=1000) (hG:∀j,j<=m->∀i,i<=(dfI j L).length->Bd (gN (ae (dfI j L)) (dfI j L).length t.num ((t.den:Nat):Int) i).natAbs kk∧Bd (((t.den:Nat):Int) ^ i).natAbs kk) (hs:∀j,j<m->sgA (dfI j L) t=0) (hm:m=L.length):aj (ph (yS L t K kt)) prog ⟨22,[0,.parts (.agg [.s,.s,.s,.b,.s,.b,.s,.b,.s,.b]) [(2,4,1),(6,4,2)]],[oL (Ai 0)],false⟩:=by
 have hP:∀j,(dfI j L).length=L.length-j:=pp L;exact adL aa8 [oL (Ai 0)] aa7 func22 (by kernel_rfl) (bN (counted m (λj=>ph (yS L t K kt ++ aa4 L K j)) (λ_=>0) (λ_ p hp=>bO (show p<(yS L t K kt).length from hp)) ⟨ad,trivial⟩ (λj hj=>by
   skip
   exact ⟨(IU,[.frm 5]),rfl,⟨ad,trivial⟩,(lB (aM (F:=(Zf (ae (dfI j L)) K)) underlying38 ad rfl) (lB (cn (op:=.gtr) ad (bz (decide_eq_true (by have:=hP j;omega)) (by simp))) (lB (IR (L:=(dfI j L)) (t:=t) (k:=K) (kt:=kt) (kk:=kk) ad ad ad (hN j (by omega)).1 (by have:=hP j;omega) (hG j (by omega)) (hs j hj)) (lB (yP (L:=(dfI j L)) (k:=K) (K:=K) ad rfl (hN j (by omega)).1 (hN j (by omega)).2.1 hK1 (hN (j+1) (by omega)).2.2) au))))⟩) (lB (aM (F:=(Zf (ae (dfI (m) L)) K)) underlying38 ad rfl) (lB (cn (op:=.gtr) ad (bz (decide_eq_false (by have:=hP m;omega)) (by simp))) au))
   poN) au)
  (aP [.fact 0 (.one (.s)),.parts (.agg [.s,.s,.s,.b,.s,.b,.s,.b,.s,.b]) [(2,4,1),(6,4,2)]] ⟨Rw.Is 4 (Zf (ae (dfI 0 L)) K) ((dfI 0 L).length),trivial,trivial⟩) aV
def hH (t:Rat):Nat->List Int->Int
 | 0,_=>0
 | f+1,L=>if sgA L t=0 then hH t f (fw L) else sgA L t
def cE (L:List Int) (t:Rat):Int:=hH t L.length L
theorem yT (L:List Int):∀j,dfI (j+1) L=dfI j (fw L)
 | 0=>rfl
 | j+1=>by rw [dfI,yT L j];rfl
theorem IV {t:Rat}:∀{f:Nat}{L:List Int},∃m,m<=f∧(∀j,j<m->sgA (dfI j L) t=0)∧(m=f∧hH t f L=0∨m<f∧sgA (dfI m L) t≠0∧hH t f L=sgA (dfI m L) t)
 | 0,L=>⟨0,Nat.le_refl _,λ_ _=>by omega,.inl ⟨rfl,rfl⟩⟩
 | f+1,L=>by
  by_cases h:sgA L t=0
  ·obtain ⟨m,h1,h2,h3⟩:=IV (t:=t) (f:=f) (L:=fw L);refine ⟨m+1,by omega,λj hj=>?_,?_⟩
   ·match j with
    | 0=>exact h
    | j+1=>rw [yT];exact h2 j (by omega)
   ·rw [hH,if_pos h,yT];rcases h3 with ⟨a,b⟩ | ⟨a,b⟩
    ·exact .inl ⟨by omega,b⟩
    ·exact .inr ⟨by omega,b⟩
  ·exact ⟨0,by omega,λ_ _=>by omega,.inr ⟨by omega,h,by rw [hH,if_neg h];rfl⟩⟩
theorem aba (L:List Int) (t:Rat):sgA (cN L) t = -sgA L t:=by
 have h:∀n j,gN (ae (cN L)) n t.num ((t.den:Nat):Int) j = -gN (ae L) n t.num ((t.den:Nat):Int) j:=λ_ j=>by
  induction j with
  | zero=>rfl
  | succ j ih=>rw [gN,gN,ih,qz,Int.neg_mul,Int.neg_mul,<- Int.neg_add]
 rw [sgA,sgA,h,show (cN L).length=L.length from dc _ _];generalize gN _ _ _ _ _=z;unfold cK;split <;> split <;> (try split) <;> (try split) <;> omega
theorem abb (L:List Int):fw (cN L)=cN (fw L):=by have hl:(cN L).length=L.length:=dc _ _;show mk ((cN L).length-1) (λi=>ae (cN L) (i+1)*(((i+1:Nat)):Int))=mk (fw L).length λi=>-(ae (fw L) i);rw [pn,hl];exact mk_congr λ_ hi=>by rw [qz,fw,cU,if_pos hi,Int.neg_mul]
theorem IW (t:Rat):∀f L,hH t f (cN L) = -hH t f L
 | 0,_=>rfl
 | f+1,L=>by rw [hH,hH,aba,abb,IW t f];split <;> split <;> first | rfl | omega
theorem lU (L:List Int) (t:Rat):cE (cN L) t = -cE L t:=by rw [cE,cE,show (cN L).length=L.length from dc _ _,IW]
theorem abc {P:Program}{f:Nat}{ls:List Arg} (h:aj Φ P ⟨f,ls,[oL (Ai z)],false⟩) (hx:Φ x=Ni z):aj Φ P ⟨f,ls,[oN x],false⟩:=λX w vs hX ha=>(h X w vs hX ha).mono λe w' ⟨g,us,he,ho⟩=>⟨g,us,he,by
 match us,ho with
 | [u],⟨⟨h3,h4⟩,h5⟩=>
  have e:u = .int .i64 z:=h3.1;subst e;refine ⟨⟨cY z,λq hq w1 hw=>?_⟩,h5⟩;simp only [List.mem_singleton] at hq;subst hq;show Φ x w1 _;rw [hx];rfl⟩
section
variable {p q r:Nat}
structure ue (L:List Int) (t:Rat) (k kt kk:Nat):Prop where
 nr:ct L
 len:L.length<=1000
 k1:1<=k
 hk:k<=4000
 hkt:kt<=100
 hkk:kk<=1000
 bd:∀j,j<=L.length->∀i,Bd (ae (dfI j L) i).natAbs k
 gb:∀j,j<=L.length->∀i,i<=(dfI j L).length->Bd (gN (ae (dfI j L)) (dfI j L).length t.num ((t.den:Nat):Int) i).natAbs kk∧Bd (((t.den:Nat):Int) ^ i).natAbs kk
theorem abd (hp:∀w v,Φ p w v->Rw 4 (λι w v=>ah w v ((ae L ι:Int):Rat) k) L.length w v) (hq:Im Φ q (Dw t kt)) (hr:Im Φ r (Dw t kt)) (hx:Φ x=Ni (cE L t)) (h:ue L t k kt kk):aj Φ prog ⟨22,[.fact p,.parts aS [(2,4,q),(6,4,r)]],[oN x],false⟩:=by
 obtain ⟨m,h1,h2,h3⟩:=IV (t:=t) (f:=L.length) (L:=L);have hN:∀j,j<=m->(dfI j L).length<=1000∧ct (dfI j L)∧∀i,Bd (ae (dfI j L) i).natAbs k:=λj hj=>⟨by rw [pp];have:=h.len;omega,IN h.nr j,h.bd j (by omega)⟩;rcases h3 with ⟨a,b⟩ | ⟨a,b,c⟩
 ·refine abc (z:=0) ?_ (by rw [hx,cE,b]);exact aU (aa9 (L:=L) (m:=m) hN h.hk h.k1 h.hkt h.hkk (λj _=>h.gb j (by omega)) h2 a) ⟨hp,⟨rfl,⟨rfl,rfl,hq⟩,⟨rfl,rfl,hr⟩,trivial⟩,trivial⟩ ⟨⟨rfl,trivial⟩,trivial⟩
 ·exact aU (aa3 (L:=L) (m:=m) hN h.hk h.k1 h.hkt h.hkk (λj _=>h.gb j (by omega)) h2 a b) ⟨hp,⟨rfl,⟨rfl,rfl,hq⟩,⟨rfl,rfl,hr⟩,trivial⟩,trivial⟩ ⟨⟨rfl,⟨rfl,rfl,λ_ _ h=>by rw [hx,cE,c];exact h⟩,trivial⟩,trivial⟩
end
theorem ai.pos {w:World}{v:Value} (hz:0<=z) (h:ai w v z k):(cC.agg [.s,.lit (.cb false)]).is v:=by obtain ⟨p,c,rfl,_⟩:=h;exact ⟨[_,_],rfl,⟨_,_,_,rfl⟩,by rw [decide_eq_false (by omega)];rfl,trivial⟩
def aet (z y:Int) (k l:Nat):List WP:=[Jw z k,Jw y l,Jw (-y) l,Jw (z+(-y)) (k+l+1)]
def aeu:List Step:=[cB 83 [1] [oD 2],
   cB 66 [0,2] [oD 3]]
def aev:List Out:=[oD 0,oD 1]
theorem aew  (hk:k+l<=1000000):aj (ph (aet z y k l)) prog ⟨71,[0,1],[oD 3],false⟩:=adL aev [oD 3] aeu func71 (by kernel_rfl) (lB (ry dD rfl rfl) (lB (yC dD dD rfl rfl) au))
  (aP [.fact 0 (.agg [.s,.b]),.fact 1 (.agg [.s,.b])] ⟨λ_ _ h=>ai.is h,λ_ _ h=>ai.is h,trivial⟩) aV
theorem aex {p q:Nat} (hp:Im Φ p (Jw z k)) (hq:Im Φ q (Jw y l)) (hx:Φ x=Jw (z-y) (k+l+1)) (hk:k+l<=1000000:=by omega):aj Φ prog ⟨71,[.fact p,.fact q],[oD x],false⟩:=
 aU (aew (z:=z) (y:=y) hk) ⟨hp,hq,trivial⟩ ⟨⟨rfl,⟨rfl,rfl,λ_ _ h=>hx▸(ai.eI h (by omega))⟩,trivial⟩,trivial⟩
def rz (a:Nat->Nat->Int) (N:Nat->Nat) (b:Nat->Int) (m R K kb:Nat):List WP:=[Rw 4 (Zf (a 0) K) (N 0),Rw 4 (Zf b kb) m,Nz m,Nz (m-1),Ptr 4 (Dw (((b (m-1):Int):Rat)) kb),Ptr 2 (Jw ((((b (m-1):Int):Rat)).num) kb),Jw ((((b (m-1):Int):Rat)).num) kb,Rw 4 (Zf (a R) K) (N R)]
def aey (a:Nat->Nat->Int) (N:Nat->Nat) (b:Nat->Int) (m K kb:Nat) (j i:Nat):List WP:=[Nz i,aA 4 57 (Zf (a (j+1)) K) i,λ_ _=>True,Ptr 4 (Dw ((((a j) i:Int):Rat)) K),Ptr 2 (Jw (((((a j) i:Int):Rat)).num) K),Jw (((((a j) i:Int):Rat)).num) K,Jw ((((((a j) i:Int):Rat)).num)*((((b (m-1):Int):Rat)).num)) (K+kb),Nz (i-(N j-m)),Ptr 4 (Dw (((b (i-(N j-m)):Int):Rat)) kb),Ptr 2 (Jw ((((b (i-(N j-m)):Int):Rat)).num) kb),Jw ((((b (i-(N j-m)):Int):Rat)).num) kb,Jw ((((((a j) (N j-1):Int):Rat)).num)*((((b (i-(N j-m)):Int):Rat)).num)) (K+kb),Jw ((((((a j) i:Int):Rat)).num)*((((b (m-1):Int):Rat)).num)-(((((a j) (N j-1):Int):Rat)).num)*((((b (i-(N j-m)):Int):Rat)).num)) ((K+kb)+(K+kb)+1),Jw (1:Int) 2,Dw (aH ((((((a j) i:Int):Rat)).num)*((((b (m-1):Int):Rat)).num)-(((((a j) (N j-1):Int):Rat)).num)*((((b (i-(N j-m)):Int):Rat)).num)) (1:Int)) (((K+kb)+(K+kb)+1)+2+2),Jw ((aH ((((((a j) i:Int):Rat)).num)*((((b (m-1):Int):Rat)).num)-(((((a j) (N j-1):Int):Rat)).num)*((((b (i-(N j-m)):Int):Rat)).num)) (1:Int)).num) (((K+kb)+(K+kb)+1)+2+2),Jw ((aH ((((((a j) i:Int):Rat)).num)*((((b (m-1):Int):Rat)).num)-(((((a j) (N j-1):Int):Rat)).num)*((((b (i-(N j-m)):Int):Rat)).num)) (1:Int)).den:Int) (((K+kb)+(K+kb)+1)+2+2),aA 4 57 (Zf (a (j+1)) K) (i+1),Nz (i+1),Ptr 4 (Dw ((((a j) i:Int):Rat)) K),Ptr 2 (Jw (((((a j) i:Int):Rat)).num) K),Jw (((((a j) i:Int):Rat)).num) K,Jw ((((((a j) i:Int):Rat)).num)*((((b (m-1):Int):Rat)).num)) (K+kb),Jw (1:Int) 2,Dw (aH ((((((a j) i:Int):Rat)).num)*((((b (m-1):Int):Rat)).num)) (1:Int)) ((K+kb)+2+2),Jw ((aH ((((((a j) i:Int):Rat)).num)*((((b (m-1):Int):Rat)).num)) (1:Int)).num) ((K+kb)+2+2),Jw ((aH ((((((a j) i:Int):Rat)).num)*((((b (m-1):Int):Rat)).num)) (1:Int)).den:Int) ((K+kb)+2+2),aA 4 57 (Zf (a (j+1)) K) (i+1),Nz (i+1)]
def JM:bp:=⟨[0,1,4,5,6,7,8,12,13,14,15,16,17,18,19,20,21,22,23,24,25,26,27,28,29,30,31,32,33,34,35,36,37,38,39,42,43],[(.slot 44,.i),(.slot 9,.s)],[(.one 0,26),(.one 1,.cM [2] 27),(.one 1,.lo 2)],[.closed (.one (Ai 0)),.closed (.one (.nl)),.frm 0],26,[(27,21)]⟩
def JN:List Step:=[bQ [26,20] oT (am .lss),.base ⟨0,[8,26],[oP 29],.gI [3] (adK 38)⟩,.base ⟨0,[29],[oP 30],.gI [3] (ce 57 0)⟩,.base ⟨0,[30],[oD 31],.jj [3] (aQ 55)⟩,
   cB 26 [31,6] [oD 32],bQ [26,14] oT (am .geq),bQ [26,14] [oN 33] (am .sub),bQ [1,33] [oP 34] (adK 38),bQ [34] [oP 35] (ce 57 0),bQ [35] [oD 36] (aQ 55),
   cB 26 [19,36] [oD 37],
   cB 71 [32,37] [oD 38],
   cB 24 [.lit (Ai 1)] [oD 39],
   cB 53 [38,39] [⟨.agg [.s,.b,.s,.b],[(0,0,40),(0,2,41),(2,2,42)]⟩],.base ⟨0,[27,.row 4 [40]],[oS 43],.loose [] 2 0 (cA 38 38)⟩,bQ [26,.lit (Ai 1)] [oN 44] (am .add)]
def JO:List Step:=[bQ [26,20] oT (am .lss),.base ⟨0,[8,26],[oP 45],.gI [3] (adK 38)⟩,.base ⟨0,[45],[oP 46],.gI [3] (ce 57 0)⟩,.base ⟨0,[46],[oD 47],.jj [3] (aQ 55)⟩,
   cB 26 [47,6] [oD 48],bQ [26,14] oF (am .geq),
   cB 24 [.lit (Ai 1)] [oD 49],
   cB 53 [48,49] [⟨.agg [.s,.b,.s,.b],[(0,0,50),(0,2,51),(2,2,52)]⟩],.base ⟨0,[27,.row 4 [50]],[oS 53],.loose [] 2 0 (cA 38 38)⟩,bQ [26,.lit (Ai 1)] [oN 54] (am .add)]
def aez:List Step:=[bQ [26,20] oF (am .lss)]
def zo (a:Nat->Nat->Int) (N:Nat->Nat) (m K:Nat) (j:Nat):List WP:=[Rw 4 (Zf (a j) K) (N j),fb (N j),Nz (N j),Nz m,Nz (N j),Nz m,Nz (N j-m),Nz (N j),Nz (N j-1),Ptr 4 (Dw ((((a j) (N j-1):Int):Rat)) K),Ptr 2 (Jw (((((a j) (N j-1):Int):Rat)).num) K),Jw (((((a j) (N j-1):Int):Rat)).num) K,Nz (N j),aA 4 57 (Zf (a (j+1)) K) (N j),Rw 4 (Zf (a (j+1)) K) (tl (λι=>((((a (j+1)) ι:Int):Rat)).num) (N j)),fb (N j),Nz (N j),Nz m]
def JP:bp:=⟨[1,4,5,6,12,13,14,15,16,17,18,19,20],[(.slot 0,.s)],[(.one 0,.cM [3] 8)],[.frm 0],8,[(8,7)]⟩
def JQ:List Step:=[.freed (.one (.s 16 0)) 8 9,bQ [9] [oN 10] (aC 38),bQ [1] [oN 11] (aC 38),bQ [10,11] oT (am .geq),bQ [9] [oN 12] (aC 38),bQ [1] [oN 13] (aC 38),bQ [12,13] [oN 14] (am .sub),bQ [9] [oN 15] (aC 38),bQ [15,.lit (Ai 1)] [oN 16] (am .sub),.base ⟨0,[8,16],[oP 17],.gI [3] (adK 38)⟩,.base ⟨0,[17],[oP 18],.gI [3] (ce 57 0)⟩,.base ⟨0,[18],[oD 19],.jj [3] (aQ 55)⟩,bQ [9] [oN 20] (aC 38),.loop JM [(JN,[.frm 44,.frm 43,.frm 0]),(JO,[.frm 54,.frm 53,.frm 0])] aez,.swap 2 3,.base ⟨42,[21],[oS 22],.dR [3] false⟩]
def aeA:List Step:=[.freed (.one (.s 16 0)) 8 23,bQ [23] [oN 24] (aC 38),bQ [1] [oN 25] (aC 38),bQ [24,25] oF (am .geq)]
def aeB:List Step:=[bQ [1] [oN 2] (aC 38),bQ [2,.lit (Ai 1)] [oN 3] (am .sub),bQ [1,3] [oP 4] (adK 38),bQ [4] [oP 5] (ce 57 0),bQ [5] [⟨.agg [.s,.lit (.cb false)],[(0,0,6)]⟩] (aQ 55),.loop JP [(JQ,[.frm 22])] aeA]
def aeC:List Out:=[oS 0,oS 1]
theorem aeD {a:Nat->Nat->Int}{N:Nat->Nat}{R kb:Nat} (hm0:0<m) (hm:m<=1000) (hN:∀j,N j<=1000) (hK:K<=40000) (hK1:1<=K) (hkb:kb<=40000) (hge:∀j,j<R->m<=N j) (hlt:N R<m) (hR:∀j,j<R->∀i,i<N j->a (j+1) i=a j i*b (m-1)-(if (N j-m)<=i then a j (N j-1)*b (i-(N j-m)) else 0)) (hT:∀j,j<R->N (j+1)=tl (a (j+1)) (N j)) (hB:∀j,j<R->∀i,i<N j->Bd (a (j+1) i).natAbs K) (hb0:0<=b (m-1):=by omega):aj (ph (rz a N b m R K kb)) prog ⟨89,[0,1],[oS 7],false⟩:=by
 have hN0:=hN 0;exact adL aeC [oS 7] aeB func89 (by kernel_rfl) (lB (aM (F:=(Zf b kb)) underlying38 ad rfl) (lB (cO ad rfl) (lB (bw (i:=(m-1)) (F:=(Zf b kb)) underlying38 ad ad rfl) (lB (cf (off:=0) (len:=2) (sz:=4) (F:=Dw (((b (m-1):Int):Rat)) kb) (G:=Jw ((((b (m-1):Int):Rat)).num) kb) ad (λ_ _ h=>ah.fst' h) rfl) (lB (bT (sz:=2) (F:=Jw ((((b (m-1):Int):Rat)).num) kb) ad (λ_ _ _ g h=>ai.kp h g) (λ_ _ h=>ai.pos hb0 h) rfl) (bN (counted R (λj=>ph (rz a N b m R K kb ++ zo a N m K j)) (λ_=>0) (λ_ p hp=>bO (show p<(rz a N b m R K kb).length from hp)) ⟨ad,trivial⟩ (λj hj=>by
   have h1:=hge j hj;have h3:=hN j;exact ⟨(JQ,[.frm 22]),rfl,⟨λ_ _ h=>Rw.len (sz:=4) (n:=tl (a (j+1)) (N j)) (m:=N (j+1)) (F:=(Zf (a (j+1)) K)) h (hT j hj).symm,trivial⟩,(gu (λ_ _ _ h=>Rw.sK (sz:=4) (n:=(N j)) (F:=(Zf (a j) K)) h) (lB (eH (n:=(N j)) underlying38 ad rfl) (lB (aM (F:=(Zf b kb)) underlying38 ad rfl) (lB (sF ad ad) (lB (eH (n:=(N j)) underlying38 ad rfl) (lB (aM (F:=(Zf b kb)) underlying38 ad rfl) (lB (sJ ad ad rfl) (lB (eH (n:=(N j)) underlying38 ad rfl) (lB (cO ad rfl) (lB (bw (i:=(N j-1)) (F:=(Zf (a j) K)) underlying38 ad ad rfl) (lB (cf (off:=0) (len:=2) (sz:=4) (F:=Dw ((((a j) (N j-1):Int):Rat)) K) (G:=Jw (((((a j) (N j-1):Int):Rat)).num) K) ad (λ_ _ h=>ah.fst' h) rfl) (lB (mN (sz:=2) (F:=Jw (((((a j) (N j-1):Int):Rat)).num) K) ad (λ_ _ _ g h=>ai.kp h g) (λ_ _ h=>ai.is h) rfl) (lB (eH (n:=(N j)) underlying38 ad rfl) (bN (counted (N j) (λi=>ph ((rz a N b m R K kb ++ zo a N m K j) ++ aey a N b m K kb j i)) (λi=>if (N j-m)<=i then 0 else 1) (λ_ p hp=>bO (show p<(rz a N b m R K kb ++ zo a N m K j).length from hp)) ⟨λ_=>rfl,λw=>aA.nil 4 57 (Zf (a (j+1)) K) w,bI,trivial⟩ (λi _=>by
   have hge':=hge j hj;by_cases hci:(N j-m)<=i
   ·skip
    exact ⟨(JN,[.frm 44,.frm 43,.frm 0]),by rw [if_pos hci];rfl,⟨ad,ad,bI,trivial⟩,(lB (bK ad ad) (lB (bw (i:=i) (F:=(Zf (a j) K)) underlying38 ad ad rfl) (lB (cf (off:=0) (len:=2) (sz:=4) (F:=Dw ((((a j) i:Int):Rat)) K) (G:=Jw (((((a j) i:Int):Rat)).num) K) ad (λ_ _ h=>ah.fst' h) rfl) (lB (mN (sz:=2) (F:=Jw (((((a j) i:Int):Rat)).num) K) ad (λ_ _ _ g h=>ai.kp h g) (λ_ _ h=>ai.is h) rfl) (lB (dE dD dD rfl rfl) (lB (sF ad ad) (lB (sJ ad ad rfl) (lB (bw (i:=(i-(N j-m))) (F:=(Zf b kb)) underlying38 ad ad rfl) (lB (cf (off:=0) (len:=2) (sz:=4) (F:=Dw (((b (i-(N j-m)):Int):Rat)) kb) (G:=Jw ((((b (i-(N j-m)):Int):Rat)).num) kb) ad (λ_ _ h=>ah.fst' h) rfl) (lB (bT (sz:=2) (F:=Jw ((((b (i-(N j-m)):Int):Rat)).num) kb) ad (λ_ _ _ g h=>ai.kp h g) (λ_ _ h=>ai.is h) rfl) (lB (dE dD dD rfl rfl) (lB (aex dD dD rfl) (lB (fP (z:=1) rfl rfl) (lB (gv dD dD rfl rfl rfl rfl) (lB (mJ (n:=i) (F:=(λι w v=>ah w v ((((a (j+1)) ι:Int):Rat)) K)) (λ_ _ _ _ g h=>ah.kp h g) ad (λ_ _ h=>ah.dm (ah.eq h ((gg _).trans (congrArg (λx:Int=>(x:Rat)) (by have:=hR j hj i (by omega);rw [if_pos hci] at this;rw [this];rfl)))) (show Bd (a (j+1) i).natAbs K from hB j hj i (by omega)) (dV hK1)) (λ_ _ h=>ah.dQ h) rfl) (lB (ch ad rfl) au))))))))))))))))⟩
   ·skip
    exact ⟨(JO,[.frm 54,.frm 53,.frm 0]),by rw [if_neg hci];rfl,⟨ad,ad,bI,trivial⟩,(lB (bK ad ad) (lB (bw (i:=i) (F:=(Zf (a j) K)) underlying38 ad ad rfl) (lB (cf (off:=0) (len:=2) (sz:=4) (F:=Dw ((((a j) i:Int):Rat)) K) (G:=Jw (((((a j) i:Int):Rat)).num) K) ad (λ_ _ h=>ah.fst' h) rfl) (lB (mN (sz:=2) (F:=Jw (((((a j) i:Int):Rat)).num) K) ad (λ_ _ _ g h=>ai.kp h g) (λ_ _ h=>ai.is h) rfl) (lB (dE dD dD rfl rfl) (lB (thF ad ad) (lB (fP (z:=1) rfl rfl) (lB (gv dD dD rfl rfl rfl rfl) (lB (mJ (n:=i) (F:=(λι w v=>ah w v ((((a (j+1)) ι:Int):Rat)) K)) (λ_ _ _ _ g h=>ah.kp h g) ad (λ_ _ h=>ah.dm (ah.eq h ((gg _).trans (congrArg (λx:Int=>(x:Rat)) (by have:=hR j hj i (by omega);rw [if_neg hci,Int.sub_zero] at this;rw [this];rfl)))) (show Bd (a (j+1) i).natAbs K from hB j hj i (by omega)) (dV hK1)) (λ_ _ h=>ah.dQ h) rfl) (lB (ch ad rfl) au))))))))))⟩
) (lB (tlF ad ad) au)
   (poC (λ_ _ h=>(λh=>h) h) poN)) (aeE (lB (eS [3] (mV (q:=(λι=>(((a (j+1)) ι:Int):Rat))) (n:=(N j)) (k:=K) (λ_ _ h=>aA.rw h) rfl)) au))))))))))))))))⟩)
   (by
   have h4:=hlt;have h5:=hN R;exact (gu (λ_ _ _ h=>Rw.sK (sz:=4) (n:=(N (R))) (F:=(Zf (a (R)) K)) h) (lB (eH (n:=(N (R))) underlying38 ad rfl) (lB (aM (F:=(Zf b kb)) underlying38 ad rfl) (lB (thF ad ad) au)))))
   (poC (λ_ _ h=>(λh=>h) h) poN)) au))))))
  (aP [.fact 0 (.one (.s)),.fact 1 (.one (.s))] ⟨Rw.Is 4 (Zf (a 0) K) (N 0),Rw.Is 4 (Zf b kb) m,trivial⟩) aV
theorem JR (a:Nat->Int) (n:Nat) (b:Nat->Int) (m:Nat):∀j,(cw a n b m j).2<=n
 | 0=>Nat.le_refl _
 | j+1=>Nat.le_trans (bg _ _) (JR a n b m j)
theorem aeF {a:Nat->Int}{j i:Nat} (hi:i<(cw a n b m j).2) (hb:0<=b (m-1):=by omega):(cw a n b m (j+1)).1 i=(cw a n b m j).1 i*b (m-1)-(if (cw a n b m j).2-m<=i then (cw a n b m j).1 ((cw a n b m j).2-1)*b (i-((cw a n b m j).2-m)) else 0):=by show gD (cw a n b m j).1 (cw a n b m j).2 b m i=_;rw [gD,if_pos hi,if_neg (show ¬b (m-1)<0 by omega),show ((b (m-1)).natAbs:Int)=b (m-1) by omega]
section
variable {p q kb:Nat}{z y:Nat->Int}
theorem abi (hp:Im Φ p (Rw 4 (Zf z K) n)) (hq:Im Φ q (Rw 4 (Zf y kb) m)) (hx:Φ x=λw v=>Rw 4 (λi w v=>ah w v (((rsE z n y m).1 i:Int):Rat) K) (rsE z n y m).2 w v)
  (hz0:∀i,n<=i->z i=0) (hy0:∀i,m<=i->y i=0) (hn:n<=1000) (hK1:1<=K) (_:∀i,i<n->Bd (z i).natAbs K) (hB:∀j,j<pz z n y m->∀i,i<(cw z n y m j).2->Bd ((cw z n y m (j+1)).1 i).natAbs K) (h0:0<m:=by omega) (hb:0<y (m-1):=by decide) (hm:m<=1000:=by omega) (hK:K<=40000:=by omega) (hkb:kb<=40000:=by omega) :
  aj Φ prog ⟨89,[.fact p,.fact q],[oS x],false⟩:=by
 obtain ⟨⟨-,h1,h2⟩,-⟩:=IY hz0 hy0 h0 (by omega);exact aU (aeD (a:=λj=>(cw z n y m j).1) (N:=λj=>(cw z n y m j).2) (b:=y) (m:=m) (R:=pz z n y m) (K:=K) (kb:=kb) h0 hm (λj=>Nat.le_trans (JR z n y m j) hn) hK hK1 hkb h2 h1 (λ_ _ _ hi=>aeF hi) (λ_ _=>rfl) hB) ⟨hp,hq,trivial⟩ ⟨⟨rfl,⟨rfl,rfl,λ_ _ h=>hx▸h⟩,trivial⟩,trivial⟩
end
def aeG (z:Nat->Int) (n k:Nat):List WP:=[Rw 4 (Zf z k) n,Dw ((cD z n:Int):Rat) (k+2+2),Jw ((cD z n:Int):Rat).num (k+2+2),Jw (((cD z n:Int):Rat).den:Int) (k+2+2),Rw 4 (Zf (ae (dvL z n (cD z n))) k) ((dvL z n (cD z n)).length)]
def aeH:List Step:=[.base ⟨128,[0],[⟨.agg [.s,.b,.s,.b],[(0,0,1),(0,2,2),(2,2,3)]⟩,oS 4],true⟩]
def aeI:List Out:=[oS 0]
theorem aeJ {z:Nat->Int} (hn:n<=1000000) (hk:k<=3000) (hk1:1<=k) (htl:tl z n=n) (hB:∀i,i<n->Bd (z i).natAbs k):aj (ph (aeG z n k)) prog ⟨148,[0],[oS 4],false⟩:=adL aeI [oS 4] aeH func148 (by kernel_rfl) (lB (Rk (z:=z) (n:=n) (k:=k) (K:=k) ad rfl rfl rfl rfl (Nat.le_refl _) htl hB rfl) au)
  (aP [.fact 0 (.one (.s))] ⟨Rw.Is 4 (Zf z k) n,trivial⟩) aV
section
variable {p q:Nat}{z y:Nat->Int}
theorem abj (hp:Im Φ p (Rw 4 (Zf z k) n)) (hx:Φ x=λw v=>Rw 4 (λi w v=>ah w v ((ae (dvL z n (cD z n)) i:Int):Rat) k) (tl z n) w v) (hn:n<=1000000) (hk:k<=3000) (hk1:1<=k) (htl:tl z n=n) (hB:∀i,i<n->Bd (z i).natAbs k) :
  aj Φ prog ⟨148,[.fact p],[oS x],false⟩:=by
 have e:(dvL z n (cD z n)).length=tl z n:=by rw [dvL,dc]
 exact aU (aeJ (z:=z) (n:=n) (k:=k) hn hk hk1 htl hB) ⟨hp,trivial⟩ ⟨⟨rfl,⟨rfl,rfl,λ_ _ h=>hx▸e▸h⟩,trivial⟩,trivial⟩
end
end Go.Proofs.YtlmanbjkkjfjgaaGreat.Sym
