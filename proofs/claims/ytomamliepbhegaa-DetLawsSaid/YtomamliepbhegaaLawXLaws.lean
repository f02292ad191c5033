/- DetLaws -/
import Derived.Test.YtomamliepbhegaaDtY
import Derived.Test.YtomamliepbhegaaDtP
import Derived.Test.YtomamliepbhegaaDtL
set_option maxRecDepth 100000
namespace Go.Proofs.Ytomamliepbhegaa.detlaws
open Go.ChangeShapes Go.WideShapes Go.ChangeAt Go.RowKit
open Go.Proofs.Ytomamliepbhegaa.Sym hiding val run start
open Go.Proofs.Ytomamliepbhegaa.dlaw
theorem aX {Φ:PH}{x q:Nat}{G:WP} (hx:Φ x=G) (h:∀w v,Φ q w v->G w v) (X:Nat->Prop) (w:World) (v:Value) (hv:(Arg.parts (.one .s) [(0,0,q)]).ok Φ X w v):(Arg.fact x).ok Φ X w v:=fun w1 hw=>by
 rw [hx]
 exact h _ _ (hv.2 (0,0,q) (List.mem_singleton.2 rfl) w1 hw)
theorem jv {Φ:PH}{p x n j:Nat}{J:List Nat}{F:PH} (hp:∀w v,Φ p w v->Rw 1 (ah F) n w v) (hx:Φ x=aE 22 F n) (hS:∀i w s,F i w s->∃p n c,s = .slice p n c) (hn:n<=1000000):aj Φ Try.prog ⟨18,[.fact p],[oS x],.ee J j⟩:=
 jr (mz (F:=F) (n:=n) hS hn) ⟨hp,trivial⟩ ⟨⟨rfl,⟨rfl,rfl,fun _ _ h=>hx▸h⟩,trivial⟩,trivial⟩
theorem dK {z y:Nat->Nat->Nat->Int}{l k:Nat->Nat->Nat}{m K L i:Nat}{w:World}{v:Value} (h:aw z l m K i w v) (hz:∀b,y i b=z i b) (hl:∀b,k i b=l i b) (hK:K<=L):aw y k m L i w v:=
 Rw.to (sz:=1) (n:=m) h fun b w v _ ⟨s,e,hs⟩=>⟨s,e,by
  show Rw 2 (If (y i b) L) (k i b) w s
  rw [hl b,hz b]
  exact Rw.to (sz:=2) (n:=l i b) (F:=If (z i b) K) hs fun _ _ _ _ h=>h.more hK⟩
theorem fS {z:Nat->Nat->Int}{y:Nat->Nat->Nat->Int}{l:Nat->Nat}{k:Nat->Nat->Nat}{m K i:Nat}{w:World}{v:Value} (h:Rw 1 (ah (aH z l K)) m w v) (hz:∀b,y i b=z b) (hl:∀b,k i b=l b):aw y k m K i w v:=
 Rw.to (sz:=1) (n:=m) h fun b w v _ ⟨s,e,hs⟩=>⟨s,e,by
  show Rw 2 (If (y i b) K) (k i b) w s
  rw [hl b,hz b]
  exact hs⟩
theorem same_eq {A B:List Int} (hB:dg B) (h:B=A):ad (mk B.length (ae B))=A:=by rw [cX hB];exact h
theorem ra {n i k:Nat} (hn:n<=4) (hi:i<n) (hk:k<n) (h:i≠k) (M:Nat->Nat->List Int):an n (fun a b=>if a=k then M i b else if a=i then M k b else M a b)=bK (an n M):=jH (jy _ _) (mV (jy _ _)) fun t=>by
 rw [ns,nu,nu,<- qR (a:=fun i j=>vL t (M i j)) hn hi hk h]
 congr 1
 funext a b
 unfold swp
 by_cases h1:a=i
 ·by_cases h2:a=k
  ·exact absurd (h1.symm.trans h2) h
  ·rw [if_neg h2,if_pos h1,if_pos h1]
 ·by_cases h2:a=k
  ·rw [if_pos h2,if_neg h1,if_pos h2]
  ·rw [if_neg h2,if_neg h1,if_neg h1,if_neg h2]
theorem rh {n i k:Nat} (hn:n<=4) (hi:i<n) (hk:k<n) (h:i≠k) (M:Nat->Nat->List Int):an n (fun a b=>if a=i then M k b else M a b) = []:=jH (jy _ _) (fun h=>absurd h (Nat.lt_irrefl 0)) fun t=>by
 rw [qQ,nu,<- mR (a:=fun i j=>vL t (M i j)) hn hi hk h]
 congr 1
 funext a
 unfold put
 split <;> rfl
theorem rt {n i k:Nat} (hn:n<=4) (hi:i<n) (hk:k<n) (h:i≠k) (C:List Int) (M:Nat->Nat->List Int):an n (fun a b=>if a=i then bo (M i b) (aK C (M k b)) else M a b)=an n M:=jH (jy _ _) (jy _ _) fun t=>by
 rw [nu,nu,<- qT (a:=fun i j=>vL t (M i j)) hn hi hk h (vL t C)]
 congr 1
 funext a
 unfold put
 split
 ·funext b;rw [li,nt]
 ·rfl
theorem jK {mc:Nat}{ac:Nat->Bool}{xc:Nat->List Nat}{w:World}{vc:Value} (h:Rw 2 (fun i w v=>KR w v (ac i) (xc i)) mc w vc):EOk 3 1 (ad (mk (min mc 2) (fun j=>sg (ac j) (Proofs.Ytomamliepbhegaa.val 4294967296 ((xc j).take 1))))):=by
 refine zE (by omega) fun j hj=>?_
 obtain ⟨p2,c2,rfl,_,he2⟩:=h
 obtain ⟨_,_,_,l,_,_,s,_,_,h2⟩:=he2 j (by omega)
 show Bd (sg (ac j) (Proofs.Ytomamliepbhegaa.val 4294967296 ((xc j).take 1))).natAbs 1
 rw [Lf]
 exact Bd.row _ h2 1
def ru (al:Nat->Nat->Bool) (xl:Nat->Nat->List Nat) (ml:Nat->Nat) (z:Nat->Nat->Int) (ln:Nat->Nat) (nl:Nat) (nz iz kz:Int) (N i k:Nat) (ac:Nat->Bool) (xc:Nat->List Nat) (zc:Nat->Int) (mc nc:Nat):List WP:=[Rw 1 (bF al xl ml) nl,Ni nz,Ni iz,Ni kz,fun w v=>Rw 2 (fun ι w v=>KR w v (ac ι) (xc ι)) mc w v,Nz N,Ni (2),Ni ((N+2:Nat):Int),Nz i,Nz k,fun w v=>Rw 2 (fun ι w v=>KI w v (ac ι) ((fun ι=>(xc ι).take 1) ι) (zc ι) 1) nc w v,Rw 1 (ah (aw (fun i k=>z ((N+2)*i+k)) (fun i k=>ln ((N+2)*i+k)) (N+2) 1)) (N+2),Rw 1 (ah (aP (fun i k=>ad (mk (ln ((N+2)*i+k)) (z ((N+2)*i+k)))) (N+2) 5)) (N+2),fun w v=>Rw 2 (fun ι w v=>au w v ((ae (an (N+2) (fun i k=>ad (mk (ln ((N+2)*i+k)) (z ((N+2)*i+k)))))) ι) 2000) ((an (N+2) (fun i k=>ad (mk (ln ((N+2)*i+k)) (z ((N+2)*i+k))))).length) w v]
def rH:List Step:=[.derive (.one (.ci .i64 2)) (.one (.lit (.ci .i64 2))) [] 6,
   .base ⟨8,[.fact 1,.lit (.ci .i64 3)],[oN 5],false⟩,
   bQ [.fact 6,.fact 5] [oN 7] (ai .add),
   .base ⟨8,[.fact 2,.fact 7],[oN 8],false⟩,
   .base ⟨8,[.fact 3,.fact 7],[oN 9],false⟩,
   .base ⟨17,[.fact 4,.lit (.ci .i64 2),.lit (.ci .i64 1)],[oS 10],false⟩,
   .base ⟨9,[.fact 0,.fact 7,.fact 7],[oS 11,oS 12],true⟩,
   .base ⟨10,[.fact 11],[oS 13,oL (.ci .i64 0)],true⟩,
   bQ [.fact 8,.fact 9] oT (ai .eql),
   .base ⟨11,[],oT,false⟩]
def rI:List Out:=[oS 0,oN 1,oN 2,oN 3,oS 4]
set_option maxHeartbeats 4000000 in
theorem rJ {al:Nat->Nat->Bool}{xl:Nat->Nat->List Nat}{ml:Nat->Nat}{z:Nat->Nat->Int}{ln:Nat->Nat}{nl:Nat}{nz iz kz:Int}{N i k:Nat}{ac:Nat->Bool}{xc:Nat->List Nat}{zc:Nat->Int}{mc nc:Nat} (hnl:nl<=9223372036854775807) (hml:∀q,ml q<=9223372036854775807) (hz:∀q j,sg (al q j) (Proofs.Ytomamliepbhegaa.val 4294967296 ((xl q j).take 1))=z q j) (hN:∀q,q<nl->min (ml q) 3=ln q) (hN0:∀q,¬q<nl->ln q=0) (hln:∀q,ln q<=3) (hE:∀q,EOk 3 1 (ad (mk (ln q) (z q)))) (hmc:mc<=9223372036854775807) (hzc:∀j,sg (ac j) (Proofs.Ytomamliepbhegaa.val 4294967296 ((xc j).take 1))=zc j) (hNc:min mc 2=nc) (_hnc2:nc<=2) (_hEc:EOk 3 1 (ad (mk nc zc))) (bw:bX nz 3=N) (hN3:N<3) (hiw:bX iz (N+2)=i) (_hi:i<N+2) (hkw:bX kz (N+2)=k) (_hk:k<N+2) (hik:i=k):aj (ph (ru al xl ml z ln nl nz iz kz N i k ac xc zc mc nc)) Try.prog ⟨5,[.fact 0,.fact 1,.fact 2,.fact 3,.fact 4],oT,false⟩:=by
 skip
 exact aR rI oT rH Try.func5 (by kernel_rfl)
  (cA (gG rfl)
   (lB (cZ (n:=3) rfl aa (by omega) (by omega) bw rfl)
   (lB (cS aa aa (by omega) rfl (by omega) (by omega))
   (lB (Ah (n:=(N+2)) aa aa (by omega) (by omega) hiw rfl)
   (lB (Ah (n:=(N+2)) aa aa (by omega) (by omega) hkw rfl)
   (lB (Ak (a:=ac) (xs:=xc) (z:=zc) (n:=nc) 2 1 rfl rfl aa rfl hmc (by omega) hzc hNc)
   (lB (eh (n:=(N+2)) (m:=(N+2)) (ml:=ml) (ln:=ln) (z:=z) aa aa aa rfl rfl (by omega) (by omega) hnl hml hz hN hN0 (fun q=>Nat.le_trans (hln q) (by omega)))
   (lB (nJ (M:=(fun i k=>ad (mk (ln ((N+2)*i+k)) (z ((N+2)*i+k))))) (z:=(fun i k=>z ((N+2)*i+k))) (ln:=(fun i k=>ln ((N+2)*i+k))) (K:=1) (n:=(N+2)) (c:=3) (k:=1) aa rfl (fun _ _=>rfl) (by omega) (by omega) (by omega) (by omega) (fun _ _ _ _=>hE _) ((fun _ _=>Nat.le_trans (hln _) (by omega))))
   (lB (cM (op:=.eql) aa aa (aS (decide_eq_true (by omega)) (by simp)))
   (lB (ei)
   aA))))))))))
  (aJ [.fact 0 (.one (.s)),.fact 1 (.one (.i)),.fact 2 (.one (.i)),.fact 3 (.one (.i)),.fact 4 (.one (.s))] ⟨Rw.Is 1 (bF al xl ml) nl,fun _ _ h=>h▸aQ _,fun _ _ h=>h▸aQ _,fun _ _ h=>h▸aQ _,Rw.Is 2 (fun ι w v=>KR w v (ac ι) (xc ι)) mc,trivial⟩) (fun _ _ _ h=>h)
def lp (al:Nat->Nat->Bool) (xl:Nat->Nat->List Nat) (ml:Nat->Nat) (z:Nat->Nat->Int) (ln:Nat->Nat) (nl:Nat) (nz iz kz:Int) (N i k:Nat) (ac:Nat->Bool) (xc:Nat->List Nat) (zc:Nat->Int) (mc nc:Nat):List WP:=[Rw 1 (bF al xl ml) nl,Ni nz,Ni iz,Ni kz,fun w v=>Rw 2 (fun ι w v=>KR w v (ac ι) (xc ι)) mc w v,Nz N,Ni (2),Ni ((N+2:Nat):Int),Nz i,Nz k,fun w v=>Rw 2 (fun ι w v=>KI w v (ac ι) ((fun ι=>(xc ι).take 1) ι) (zc ι) 1) nc w v,Rw 1 (ah (aw (fun i k=>z ((N+2)*i+k)) (fun i k=>ln ((N+2)*i+k)) (N+2) 1)) (N+2),Rw 1 (ah (aP (fun i k=>ad (mk (ln ((N+2)*i+k)) (z ((N+2)*i+k)))) (N+2) 5)) (N+2),fun w v=>Rw 2 (fun ι w v=>au w v ((ae (an (N+2) (fun i k=>ad (mk (ln ((N+2)*i+k)) (z ((N+2)*i+k)))))) ι) 2000) ((an (N+2) (fun i k=>ad (mk (ln ((N+2)*i+k)) (z ((N+2)*i+k))))).length) w v,aE 22 (aw (fun i k=>z ((N+2)*i+k)) (fun i k=>ln ((N+2)*i+k)) (N+2) 1) (N+2),At 1,fV ((aw (fun i k=>z ((N+2)*i+k)) (fun i k=>ln ((N+2)*i+k)) (N+2) 1) k),Rw 1 (ah (aH ((fun i k=>z ((N+2)*i+k)) k) ((fun i k=>ln ((N+2)*i+k)) k) 1)) (N+2),At 1,fV ((aw (fun i k=>z ((N+2)*i+k)) (fun i k=>ln ((N+2)*i+k)) (N+2) 1) i),Rw 1 (ah (aH ((fun i k=>z ((N+2)*i+k)) i) ((fun i k=>ln ((N+2)*i+k)) i) 1)) (N+2),At 1,gV (N+2),aE 22 (aw (fun a b=>if a=i then z ((N+2)*k+b) else z ((N+2)*a+b)) (fun a b=>if a=i then ln ((N+2)*k+b) else ln ((N+2)*a+b)) (N+2) 1) (N+2),At 1,aE 22 (aw (fun a b=>if a=k then z ((N+2)*i+b) else if a=i then z ((N+2)*k+b) else z ((N+2)*a+b)) (fun a b=>if a=k then ln ((N+2)*i+b) else if a=i then ln ((N+2)*k+b) else ln ((N+2)*a+b)) (N+2) 1) (N+2),Rw 1 (ah (aw (fun a b=>if a=k then z ((N+2)*i+b) else if a=i then z ((N+2)*k+b) else z ((N+2)*a+b)) (fun a b=>if a=k then ln ((N+2)*i+b) else if a=i then ln ((N+2)*k+b) else ln ((N+2)*a+b)) (N+2) 1)) (N+2),fun w v=>Rw 2 (fun ι w v=>au w v ((ae (an (N+2) (fun a b=>if a=k then (fun i k=>ad (mk (ln ((N+2)*i+k)) (z ((N+2)*i+k)))) i b else if a=i then (fun i k=>ad (mk (ln ((N+2)*i+k)) (z ((N+2)*i+k)))) k b else (fun i k=>ad (mk (ln ((N+2)*i+k)) (z ((N+2)*i+k)))) a b))) ι) 2000) ((an (N+2) (fun a b=>if a=k then (fun i k=>ad (mk (ln ((N+2)*i+k)) (z ((N+2)*i+k)))) i b else if a=i then (fun i k=>ad (mk (ln ((N+2)*i+k)) (z ((N+2)*i+k)))) k b else (fun i k=>ad (mk (ln ((N+2)*i+k)) (z ((N+2)*i+k)))) a b)).length) w v,aE 22 (aw (fun i k=>z ((N+2)*i+k)) (fun i k=>ln ((N+2)*i+k)) (N+2) 1) (N+2),At 1,fV ((aw (fun i k=>z ((N+2)*i+k)) (fun i k=>ln ((N+2)*i+k)) (N+2) 1) k),Rw 1 (ah (aH ((fun i k=>z ((N+2)*i+k)) k) ((fun i k=>ln ((N+2)*i+k)) k) 1)) (N+2),At 1,gV (N+2),aE 22 (aw (fun a b=>if a=i then z ((N+2)*k+b) else z ((N+2)*a+b)) (fun a b=>if a=i then ln ((N+2)*k+b) else ln ((N+2)*a+b)) (N+2) 1) (N+2),Rw 1 (ah (aw (fun a b=>if a=i then z ((N+2)*k+b) else z ((N+2)*a+b)) (fun a b=>if a=i then ln ((N+2)*k+b) else ln ((N+2)*a+b)) (N+2) 1)) (N+2),fun w v=>Rw 2 (fun ι w v=>au w v ((ae (an (N+2) (fun a b=>if a=i then (fun i k=>ad (mk (ln ((N+2)*i+k)) (z ((N+2)*i+k)))) k b else (fun i k=>ad (mk (ln ((N+2)*i+k)) (z ((N+2)*i+k)))) a b))) ι) 2000) ((an (N+2) (fun a b=>if a=i then (fun i k=>ad (mk (ln ((N+2)*i+k)) (z ((N+2)*i+k)))) k b else (fun i k=>ad (mk (ln ((N+2)*i+k)) (z ((N+2)*i+k)))) a b)).length) w v,aE 22 (aw (fun i k=>z ((N+2)*i+k)) (fun i k=>ln ((N+2)*i+k)) (N+2) 1) (N+2),Ptr 1 (ah (aw (fun i k=>z ((N+2)*i+k)) (fun i k=>ln ((N+2)*i+k)) (N+2) 1) i),Rw 1 (ah (aH ((fun i k=>z ((N+2)*i+k)) i) ((fun i k=>ln ((N+2)*i+k)) i) 1)) (N+2),Nz (N+2),aE 29 (aH (fun j=>ae (bo ((fun i k=>ad (mk (ln ((N+2)*i+k)) (z ((N+2)*i+k)))) i j) (aK (ad (mk nc zc)) ((fun i k=>ad (mk (ln ((N+2)*i+k)) (z ((N+2)*i+k)))) k j)))) (fun j=>(bo ((fun i k=>ad (mk (ln ((N+2)*i+k)) (z ((N+2)*i+k)))) i j) (aK (ad (mk nc zc)) ((fun i k=>ad (mk (ln ((N+2)*i+k)) (z ((N+2)*i+k)))) k j))).length) 6) (N+2),At 1,gV (N+2),Rw 1 (ah (aH (fun j=>ae (bo ((fun i k=>ad (mk (ln ((N+2)*i+k)) (z ((N+2)*i+k)))) i j) (aK (ad (mk nc zc)) ((fun i k=>ad (mk (ln ((N+2)*i+k)) (z ((N+2)*i+k)))) k j)))) (fun j=>(bo ((fun i k=>ad (mk (ln ((N+2)*i+k)) (z ((N+2)*i+k)))) i j) (aK (ad (mk nc zc)) ((fun i k=>ad (mk (ln ((N+2)*i+k)) (z ((N+2)*i+k)))) k j))).length) 6)) (N+2),aE 22 (aw (fun a b=>if a=i then ae (bo ((fun i k=>ad (mk (ln ((N+2)*i+k)) (z ((N+2)*i+k)))) i b) (aK (ad (mk nc zc)) ((fun i k=>ad (mk (ln ((N+2)*i+k)) (z ((N+2)*i+k)))) k b))) else z ((N+2)*a+b)) (fun a b=>if a=i then (bo ((fun i k=>ad (mk (ln ((N+2)*i+k)) (z ((N+2)*i+k)))) i b) (aK (ad (mk nc zc)) ((fun i k=>ad (mk (ln ((N+2)*i+k)) (z ((N+2)*i+k)))) k b))).length else ln ((N+2)*a+b)) (N+2) 6) (N+2),Rw 1 (ah (aw (fun a b=>if a=i then ae (bo ((fun i k=>ad (mk (ln ((N+2)*i+k)) (z ((N+2)*i+k)))) i b) (aK (ad (mk nc zc)) ((fun i k=>ad (mk (ln ((N+2)*i+k)) (z ((N+2)*i+k)))) k b))) else z ((N+2)*a+b)) (fun a b=>if a=i then (bo ((fun i k=>ad (mk (ln ((N+2)*i+k)) (z ((N+2)*i+k)))) i b) (aK (ad (mk nc zc)) ((fun i k=>ad (mk (ln ((N+2)*i+k)) (z ((N+2)*i+k)))) k b))).length else ln ((N+2)*a+b)) (N+2) 6)) (N+2),fun w v=>Rw 2 (fun ι w v=>au w v ((ae (an (N+2) (fun a b=>if a=i then (bo ((fun i k=>ad (mk (ln ((N+2)*i+k)) (z ((N+2)*i+k)))) i b) (aK (ad (mk nc zc)) ((fun i k=>ad (mk (ln ((N+2)*i+k)) (z ((N+2)*i+k)))) k b))) else (fun i k=>ad (mk (ln ((N+2)*i+k)) (z ((N+2)*i+k)))) a b))) ι) 2000) ((an (N+2) (fun a b=>if a=i then (bo ((fun i k=>ad (mk (ln ((N+2)*i+k)) (z ((N+2)*i+k)))) i b) (aK (ad (mk nc zc)) ((fun i k=>ad (mk (ln ((N+2)*i+k)) (z ((N+2)*i+k)))) k b))) else (fun i k=>ad (mk (ln ((N+2)*i+k)) (z ((N+2)*i+k)))) a b)).length) w v,fun w v=>Rw 2 (fun ι w v=>au w v ((ae (bK (an (N+2) (fun i k=>ad (mk (ln ((N+2)*i+k)) (z ((N+2)*i+k))))))) ι) 2000) ((bK (an (N+2) (fun i k=>ad (mk (ln ((N+2)*i+k)) (z ((N+2)*i+k)))))).length) w v,Ni (((an (N+2) (fun a b=>if a=i then (fun i k=>ad (mk (ln ((N+2)*i+k)) (z ((N+2)*i+k)))) k b else (fun i k=>ad (mk (ln ((N+2)*i+k)) (z ((N+2)*i+k)))) a b)).length:Nat):Int)]
def rK (z:Nat->Nat->Int) (ln:Nat->Nat) (N i k:Nat) (zc:Nat->Int) (nc:Nat) (j:Nat):List WP:=[Nz j,aE 29 (aH (fun j=>ae (bo ((fun i k=>ad (mk (ln ((N+2)*i+k)) (z ((N+2)*i+k)))) i j) (aK (ad (mk nc zc)) ((fun i k=>ad (mk (ln ((N+2)*i+k)) (z ((N+2)*i+k)))) k j)))) (fun j=>(bo ((fun i k=>ad (mk (ln ((N+2)*i+k)) (z ((N+2)*i+k)))) i j) (aK (ad (mk nc zc)) ((fun i k=>ad (mk (ln ((N+2)*i+k)) (z ((N+2)*i+k)))) k j))).length) 6) j,fun _ _=>True,Ptr 1 (ah (aw (fun i k=>z ((N+2)*i+k)) (fun i k=>ln ((N+2)*i+k)) (N+2) 1) i),Rw 1 (ah (aH ((fun i k=>z ((N+2)*i+k)) i) ((fun i k=>ln ((N+2)*i+k)) i) 1)) (N+2),Ptr 1 (ah (aH ((fun i k=>z ((N+2)*i+k)) i) ((fun i k=>ln ((N+2)*i+k)) i) 1) j),fun w v=>Rw 2 (fun ι w v=>aB w v ((z ((N+2)*i+j)) ι) 1) (ln ((N+2)*i+j)) w v,Ptr 1 (ah (aw (fun i k=>z ((N+2)*i+k)) (fun i k=>ln ((N+2)*i+k)) (N+2) 1) k),Rw 1 (ah (aH ((fun i k=>z ((N+2)*i+k)) k) ((fun i k=>ln ((N+2)*i+k)) k) 1)) (N+2),Ptr 1 (ah (aH ((fun i k=>z ((N+2)*i+k)) k) ((fun i k=>ln ((N+2)*i+k)) k) 1) j),fun w v=>Rw 2 (fun ι w v=>aB w v ((z ((N+2)*k+j)) ι) 1) (ln ((N+2)*k+j)) w v,fun w v=>Rw 2 (fun ι w v=>au w v ((ae (aK (ad (mk nc zc)) ((fun i k=>ad (mk (ln ((N+2)*i+k)) (z ((N+2)*i+k)))) k j))) ι) 5) ((aK (ad (mk nc zc)) ((fun i k=>ad (mk (ln ((N+2)*i+k)) (z ((N+2)*i+k)))) k j)).length) w v,fun w v=>Rw 2 (fun ι w v=>au w v ((ae (bo ((fun i k=>ad (mk (ln ((N+2)*i+k)) (z ((N+2)*i+k)))) i j) (aK (ad (mk nc zc)) ((fun i k=>ad (mk (ln ((N+2)*i+k)) (z ((N+2)*i+k)))) k j)))) ι) 6) ((bo ((fun i k=>ad (mk (ln ((N+2)*i+k)) (z ((N+2)*i+k)))) i j) (aK (ad (mk nc zc)) ((fun i k=>ad (mk (ln ((N+2)*i+k)) (z ((N+2)*i+k)))) k j))).length) w v,ah (aH (fun j=>ae (bo ((fun i k=>ad (mk (ln ((N+2)*i+k)) (z ((N+2)*i+k)))) i j) (aK (ad (mk nc zc)) ((fun i k=>ad (mk (ln ((N+2)*i+k)) (z ((N+2)*i+k)))) k j)))) (fun j=>(bo ((fun i k=>ad (mk (ln ((N+2)*i+k)) (z ((N+2)*i+k)))) i j) (aK (ad (mk nc zc)) ((fun i k=>ad (mk (ln ((N+2)*i+k)) (z ((N+2)*i+k)))) k j))).length) 6) j,aE 29 (aH (fun j=>ae (bo ((fun i k=>ad (mk (ln ((N+2)*i+k)) (z ((N+2)*i+k)))) i j) (aK (ad (mk nc zc)) ((fun i k=>ad (mk (ln ((N+2)*i+k)) (z ((N+2)*i+k)))) k j)))) (fun j=>(bo ((fun i k=>ad (mk (ln ((N+2)*i+k)) (z ((N+2)*i+k)))) i j) (aK (ad (mk nc zc)) ((fun i k=>ad (mk (ln ((N+2)*i+k)) (z ((N+2)*i+k)))) k j))).length) 6) (j+1),Nz (j+1)]
def mU:bf:=⟨[0,1,2,3,4,10,11,12,13,14,15,16,17,18,19,24,25,26,27,28,29,30,31,32,33,34,35,36,37,38,39,40,41,42,43,44,45,46,47,48,49,50,51,53,54,55,56,57,58,59,60,61,62,63,64,65,66,67,68,69,70,71,72,73,74,75,76,77,78,79,80,81,82,83,84,85,86,87,88,89,90,91,92,93,94],[(.slot 95,.i),(.slot 20,.s)],[(.one 0,50),(.one 1,.bT [6] 51),(.one 1,.lo 6)],[.closed (.one (.ci .i64 0)),.closed (.one (.nl)),.frm 0],50,[(51,41)]⟩
def nh:List Step:=[bQ [.fact 50,.fact 40] oT (ai .lss),
   bQ [.fact 11,.fact 8] [oP 53] (aI 24),
   bQ [.fact 53] [oS 54] (aL 22),
   bQ [.fact 54,.fact 50] [oP 55] (aI 22),
   bQ [.fact 55] [oS 56] (aL 29),
   bQ [.fact 11,.fact 9] [oP 57] (aI 24),
   bQ [.fact 57] [oS 58] (aL 22),
   bQ [.fact 58,.fact 50] [oP 59] (aI 22),
   bQ [.fact 59] [oS 60] (aL 29),
   .base ⟨20,[.fact 10,.fact 60],[oS 61],false⟩,
   .base ⟨19,[.fact 56,.fact 61],[⟨.one (.s),[(0,0,62),(0,2,63)]⟩],false⟩,
   .base ⟨0,[.fact 51,.row 1 [63]],[oS 64],.loose [] 6 0 (cf 22 22)⟩,
   bQ [.fact 50,.lit (.ci .i64 1)] [oN 65] (ai .add)]
def rL:List Step:=[bQ [.fact 50,.fact 40] oF (ai .lss)]
def rM:List Step:=[.derive (.one (.ci .i64 2)) (.one (.lit (.ci .i64 2))) [] 6,
   .base ⟨8,[.fact 1,.lit (.ci .i64 3)],[oN 5],false⟩,
   bQ [.fact 6,.fact 5] [oN 7] (ai .add),
   .base ⟨8,[.fact 2,.fact 7],[oN 8],false⟩,
   .base ⟨8,[.fact 3,.fact 7],[oN 9],false⟩,
   .base ⟨17,[.fact 4,.lit (.ci .i64 2),.lit (.ci .i64 1)],[oS 10],false⟩,
   .base ⟨9,[.fact 0,.fact 7,.fact 7],[oS 11,oS 12],true⟩,
   .base ⟨10,[.fact 11],[oS 13,oL (.ci .i64 0)],true⟩,
   bQ [.fact 8,.fact 9] oF (ai .eql),
   .base ⟨18,[.fact 11],[oS 14],.ee [] 3⟩,
   .freed (.one (.s 39 0)) 14 22,
   .base ⟨0,[.fact 14,.fact 9],[oP 16],.joint [3] 15 (aI 24)⟩,
   .base ⟨0,[.any,.any,.fact 16],[oS 17],.bS [] 3 0 15 (iY 22 (.tmp 59) (.tmp 60))⟩,
   .base ⟨0,[.fact 14,.fact 8],[oP 19],.joint [3] 18 (aI 24)⟩,
   .base ⟨0,[.any,.any,.fact 19],[oS 20],.bS [] 3 0 18 (iY 22 (.tmp 63) (.tmp 64))⟩,
   .base ⟨0,[.fact 22,.fact 8],[⟨.one (.p),[]⟩],.joint [] 21 (aI 24)⟩,
   .base ⟨0,[.fact 14,.fact 8,.any,.fact 17],[oS 23],.gF [] 3 0 21 (dN 22 (.tmp 55) (.tmp 56))⟩,
   .base ⟨0,[.fact 22,.fact 9],[⟨.one (.p),[]⟩],.joint [] 24 (aI 24)⟩,
   .base ⟨0,[.fact 23,.fact 9,.any,.fact 20],[oS 25],.gF [] 3 0 24 (dN 22 (.tmp 57) (.tmp 58))⟩,
   .shut 3,
   .derive (.one (.s 39 0)) (.one (.s)) [(0,0,25)] 26,
   .base ⟨10,[.fact 26],[oS 27,oL (.ci .i64 0)],true⟩,
   .base ⟨18,[.fact 11],[oS 28],.ee [] 4⟩,
   .freed (.one (.s 65 0)) 28 33,
   .base ⟨0,[.fact 28,.fact 9],[oP 30],.joint [4] 29 (aI 24)⟩,
   .base ⟨0,[.any,.any,.fact 30],[oS 31],.bS [] 4 0 29 (iY 22 (.tmp 78) (.tmp 79))⟩,
   .base ⟨0,[.fact 33,.fact 8],[⟨.one (.p),[]⟩],.joint [] 32 (aI 24)⟩,
   .base ⟨0,[.fact 28,.fact 8,.any,.fact 31],[oS 34],.gF [] 4 0 32 (dN 22 (.tmp 76) (.tmp 77))⟩,
   .shut 4,
   .derive (.one (.s 65 0)) (.one (.s)) [(0,0,34)] 35,
   .base ⟨10,[.fact 35],[oS 36,oL (.ci .i64 0)],true⟩,
   .base ⟨18,[.fact 11],[oS 37],.ee [] 5⟩,
   bQ [.fact 11,.fact 8] [oP 38] (aI 24),
   bQ [.fact 38] [oS 39] (aL 22),
   bQ [.fact 39] [oN 40] (aD 22),
   .loop mU [(nh,[.frm 65,.frm 64,.frm 0])] rL,
   .freed (.one (.s 83 0)) 37 43,
   .shut 6,
   .derive (.one (.s 92 1)) (.one (.s)) [(0,0,41)] 44,
   .base ⟨0,[.fact 43,.fact 8],[⟨.one (.p),[]⟩],.joint [] 42 (aI 24)⟩,
   .base ⟨0,[.fact 37,.fact 8,.any,.fact 44],[oS 45],.gF [] 5 0 42 (dN 22 (.tmp 119) (.tmp 120))⟩,
   .shut 5,
   .derive (.one (.s 83 0)) (.one (.s)) [(0,0,45)] 46,
   .base ⟨10,[.fact 46],[oS 47,oL (.ci .i64 0)],true⟩,
   .base ⟨22,[.fact 13],[oS 48],false⟩,
   .base ⟨21,[.fact 27,.fact 48],oT,false⟩,
   bQ [.fact 36] [oN 49] (aD 29),
   bQ [.fact 49,.lit (.ci .i64 0)] oT (ai .eql),
   .base ⟨21,[.fact 47,.fact 13],oT,false⟩,
   .base ⟨11,[],oT,false⟩]
def rN:List Out:=[oS 0,oN 1,oN 2,oN 3,oS 4]
set_option maxHeartbeats 4000000 in
theorem rO {al:Nat->Nat->Bool}{xl:Nat->Nat->List Nat}{ml:Nat->Nat}{z:Nat->Nat->Int}{ln:Nat->Nat}{nl:Nat}{nz iz kz:Int}{N i k:Nat}{ac:Nat->Bool}{xc:Nat->List Nat}{zc:Nat->Int}{mc nc:Nat} (hnl:nl<=9223372036854775807) (hml:∀q,ml q<=9223372036854775807) (hz:∀q j,sg (al q j) (Proofs.Ytomamliepbhegaa.val 4294967296 ((xl q j).take 1))=z q j) (hN:∀q,q<nl->min (ml q) 3=ln q) (hN0:∀q,¬q<nl->ln q=0) (hln:∀q,ln q<=3) (hE:∀q,EOk 3 1 (ad (mk (ln q) (z q)))) (hmc:mc<=9223372036854775807) (hzc:∀j,sg (ac j) (Proofs.Ytomamliepbhegaa.val 4294967296 ((xc j).take 1))=zc j) (hNc:min mc 2=nc) (rP:nc<=2) (hEc:EOk 3 1 (ad (mk nc zc))) (bw:bX nz 3=N) (hN3:N<3) (hiw:bX iz (N+2)=i) (hi:i<N+2) (hkw:bX kz (N+2)=k) (hk:k<N+2) (hik:i≠k):aj (ph (lp al xl ml z ln nl nz iz kz N i k ac xc zc mc nc)) Try.prog ⟨5,[.fact 0,.fact 1,.fact 2,.fact 3,.fact 4],oT,false⟩:=by
 have hX:∀j,EOk (3+3) (1+1+3) (aK (ad (mk nc zc)) ((fun i k=>ad (mk (ln ((N+2)*i+k)) (z ((N+2)*i+k)))) k j)):=fun j=>hEc.mul (hE _)
 have hA:∀j,EOk 6 6 (bo ((fun i k=>ad (mk (ln ((N+2)*i+k)) (z ((N+2)*i+k)))) i j) (aK (ad (mk nc zc)) ((fun i k=>ad (mk (ln ((N+2)*i+k)) (z ((N+2)*i+k)))) k j))):=fun j=>((hE ((N+2)*i+j)).more (show 3<=6 by omega) (show 1<=5 by omega)).add (hX j)
 have hDD:=fU (c:=3) (k:=1) (N+2) (fun i k=>ad (mk (ln ((N+2)*i+k)) (z ((N+2)*i+k)))) (fun _ _ _ _=>hE _)
 have hbd:=lh (c:=3) (k:=1) (by omega) (by omega) (N+2) (by omega)
 have hDB:=fU (c:=3) (k:=1) (N+2) (fun a b=>if a=k then (fun i k=>ad (mk (ln ((N+2)*i+k)) (z ((N+2)*i+k)))) i b else if a=i then (fun i k=>ad (mk (ln ((N+2)*i+k)) (z ((N+2)*i+k)))) k b else (fun i k=>ad (mk (ln ((N+2)*i+k)) (z ((N+2)*i+k)))) a b) (fun a b _ _=>by (try dsimp only);split;exact hE _;split;exact hE _;exact hE _)
 have hDA:=fU (c:=3) (k:=1) (N+2) (fun a b=>if a=i then (fun i k=>ad (mk (ln ((N+2)*i+k)) (z ((N+2)*i+k)))) k b else (fun i k=>ad (mk (ln ((N+2)*i+k)) (z ((N+2)*i+k)))) a b) (fun a b _ _=>by (try dsimp only);split;exact hE _;exact hE _)
 have hDC:=fU (c:=6) (k:=6) (N+2) (fun a b=>if a=i then (bo ((fun i k=>ad (mk (ln ((N+2)*i+k)) (z ((N+2)*i+k)))) i b) (aK (ad (mk nc zc)) ((fun i k=>ad (mk (ln ((N+2)*i+k)) (z ((N+2)*i+k)))) k b))) else (fun i k=>ad (mk (ln ((N+2)*i+k)) (z ((N+2)*i+k)))) a b) (fun a b _ _=>by (try dsimp only);split;exact hA b;exact (hE _).more (by omega) (by omega))
 have hbC:=lh (c:=6) (k:=6) (by omega) (by omega) (N+2) (by omega)
 exact aR rN oT rM Try.func5 (by kernel_rfl)
  (cA (gG rfl)
   (lB (cZ (n:=3) rfl aa (by omega) (by omega) bw rfl)
   (lB (cS aa aa (by omega) rfl (by omega) (by omega))
   (lB (Ah (n:=(N+2)) aa aa (by omega) (by omega) hiw rfl)
   (lB (Ah (n:=(N+2)) aa aa (by omega) (by omega) hkw rfl)
   (lB (Ak (a:=ac) (xs:=xc) (z:=zc) (n:=nc) 2 1 rfl rfl aa rfl hmc (by omega) hzc hNc)
   (lB (eh (n:=(N+2)) (m:=(N+2)) (ml:=ml) (ln:=ln) (z:=z) aa aa aa rfl rfl (by omega) (by omega) hnl hml hz hN hN0 (fun q=>Nat.le_trans (hln q) (by omega)))
   (lB (nJ (M:=(fun i k=>ad (mk (ln ((N+2)*i+k)) (z ((N+2)*i+k))))) (z:=(fun i k=>z ((N+2)*i+k))) (ln:=(fun i k=>ln ((N+2)*i+k))) (K:=1) (n:=(N+2)) (c:=3) (k:=1) aa rfl (fun _ _=>rfl) (by omega) (by omega) (by omega) (by omega) (fun _ _ _ _=>hE _) ((fun _ _=>Nat.le_trans (hln _) (by omega))))
   (lB (cM (op:=.eql) aa aa (aS (decide_eq_false (by omega)) (by simp)))
   (lB (jv (F:=(aw (fun i k=>z ((N+2)*i+k)) (fun i k=>ln ((N+2)*i+k)) (N+2) 1)) (n:=(N+2)) aa rfl (iG _ _ _ _) (by omega))
   (jA (kv (e:=22) (n:=(N+2)) (F:=(aw (fun i k=>z ((N+2)*i+k)) (fun i k=>ln ((N+2)*i+k)) (N+2) 1)) (by omega) aa rfl)
   (lB (jC (i:=k) (n:=(N+2)) (F:=(aw (fun i k=>z ((N+2)*i+k)) (fun i k=>ln ((N+2)*i+k)) (N+2) 1)) Try.underlying24 (by kernel_rfl) aa aa (by omega) rfl rfl)
   (lB (kA (G:=((aw (fun i k=>z ((N+2)*i+k)) (fun i k=>ln ((N+2)*i+k)) (N+2) 1) k)) (.tmp 59) (.tmp 60) (by kernel_rfl) (eN _ _ _ _ _) (fun _ _ h=>bO h) aa rfl rfl)
   (lB (jC (i:=i) (n:=(N+2)) (F:=(aw (fun i k=>z ((N+2)*i+k)) (fun i k=>ln ((N+2)*i+k)) (N+2) 1)) Try.underlying24 (by kernel_rfl) aa aa (by omega) rfl rfl)
   (lB (kA (G:=((aw (fun i k=>z ((N+2)*i+k)) (fun i k=>ln ((N+2)*i+k)) (N+2) 1) i)) (.tmp 63) (.tmp 64) (by kernel_rfl) (eN _ _ _ _ _) (fun _ _ h=>bO h) aa rfl rfl)
   (lB (jJ (i:=i) (n:=(N+2)) Try.underlying24 (by kernel_rfl) aa aa (by omega) rfl)
   (lB (LU (i:=i) (n:=(N+2)) (F:=(aw (fun i k=>z ((N+2)*i+k)) (fun i k=>ln ((N+2)*i+k)) (N+2) 1)) (F':=(aw (fun a b=>if a=i then z ((N+2)*k+b) else z ((N+2)*a+b)) (fun a b=>if a=i then ln ((N+2)*k+b) else ln ((N+2)*a+b)) (N+2) 1)) (G:=Rw 1 (ah (aH (fun b=>z ((N+2)*k+b)) (fun b=>ln ((N+2)*k+b)) 1)) (N+2)) (.tmp 55) (.tmp 56) (by kernel_rfl) (fun _ _ h=>bO h) (eN _ _ _ _) aa aa (by omega) aa rfl (fun k' w v hk h=>dK h (fun b=>if_neg hk) (fun b=>if_neg hk) (by omega)) (fun w v h=>fS h (fun b=>if_pos rfl) (fun b=>if_pos rfl)) rfl)
   (lB (jJ (i:=k) (n:=(N+2)) Try.underlying24 (by kernel_rfl) aa aa (by omega) rfl)
   (lB (LU (i:=k) (n:=(N+2)) (F:=(aw (fun a b=>if a=i then z ((N+2)*k+b) else z ((N+2)*a+b)) (fun a b=>if a=i then ln ((N+2)*k+b) else ln ((N+2)*a+b)) (N+2) 1)) (F':=(aw (fun a b=>if a=k then z ((N+2)*i+b) else if a=i then z ((N+2)*k+b) else z ((N+2)*a+b)) (fun a b=>if a=k then ln ((N+2)*i+b) else if a=i then ln ((N+2)*k+b) else ln ((N+2)*a+b)) (N+2) 1)) (G:=Rw 1 (ah (aH (fun b=>z ((N+2)*i+b)) (fun b=>ln ((N+2)*i+b)) 1)) (N+2)) (.tmp 57) (.tmp 58) (by kernel_rfl) (fun _ _ h=>bO h) (eN _ _ _ _) aa aa (by omega) aa rfl (fun k' w v hk h=>dK h (fun b=>if_neg hk) (fun b=>if_neg hk) (by omega)) (fun w v h=>fS h (fun b=>if_pos rfl) (fun b=>if_pos rfl)) rfl)
   (nC (cA (aX (G:=Rw 1 (ah (aw (fun a b=>if a=k then z ((N+2)*i+b) else if a=i then z ((N+2)*k+b) else z ((N+2)*a+b)) (fun a b=>if a=k then ln ((N+2)*i+b) else if a=i then ln ((N+2)*k+b) else ln ((N+2)*a+b)) (N+2) 1)) (N+2)) rfl (fun _ _ h=>aE.rw h))
   (lB (nJ (M:=(fun a b=>if a=k then (fun i k=>ad (mk (ln ((N+2)*i+k)) (z ((N+2)*i+k)))) i b else if a=i then (fun i k=>ad (mk (ln ((N+2)*i+k)) (z ((N+2)*i+k)))) k b else (fun i k=>ad (mk (ln ((N+2)*i+k)) (z ((N+2)*i+k)))) a b)) (z:=(fun a b=>if a=k then z ((N+2)*i+b) else if a=i then z ((N+2)*k+b) else z ((N+2)*a+b))) (ln:=(fun a b=>if a=k then ln ((N+2)*i+b) else if a=i then ln ((N+2)*k+b) else ln ((N+2)*a+b))) (K:=1) (n:=(N+2)) (c:=3) (k:=1) aa rfl (fun a b=>by (try dsimp only);split;rfl;split <;> rfl) (by omega) (by omega) (by omega) (by omega) (fun a b _ _=>by (try dsimp only);split;exact hE _;split;exact hE _;exact hE _) (fun a b=>by (try dsimp only);split;exact Nat.le_trans (hln _) (by omega);split;exact Nat.le_trans (hln _) (by omega);exact Nat.le_trans (hln _) (by omega)))
   (lB (jv (F:=(aw (fun i k=>z ((N+2)*i+k)) (fun i k=>ln ((N+2)*i+k)) (N+2) 1)) (n:=(N+2)) aa rfl (iG _ _ _ _) (by omega))
   (jA (kv (e:=22) (n:=(N+2)) (F:=(aw (fun i k=>z ((N+2)*i+k)) (fun i k=>ln ((N+2)*i+k)) (N+2) 1)) (by omega) aa rfl)
   (lB (jC (i:=k) (n:=(N+2)) (F:=(aw (fun i k=>z ((N+2)*i+k)) (fun i k=>ln ((N+2)*i+k)) (N+2) 1)) Try.underlying24 (by kernel_rfl) aa aa (by omega) rfl rfl)
   (lB (kA (G:=((aw (fun i k=>z ((N+2)*i+k)) (fun i k=>ln ((N+2)*i+k)) (N+2) 1) k)) (.tmp 78) (.tmp 79) (by kernel_rfl) (eN _ _ _ _ _) (fun _ _ h=>bO h) aa rfl rfl)
   (lB (jJ (i:=i) (n:=(N+2)) Try.underlying24 (by kernel_rfl) aa aa (by omega) rfl)
   (lB (LU (i:=i) (n:=(N+2)) (F:=(aw (fun i k=>z ((N+2)*i+k)) (fun i k=>ln ((N+2)*i+k)) (N+2) 1)) (F':=(aw (fun a b=>if a=i then z ((N+2)*k+b) else z ((N+2)*a+b)) (fun a b=>if a=i then ln ((N+2)*k+b) else ln ((N+2)*a+b)) (N+2) 1)) (G:=Rw 1 (ah (aH (fun b=>z ((N+2)*k+b)) (fun b=>ln ((N+2)*k+b)) 1)) (N+2)) (.tmp 76) (.tmp 77) (by kernel_rfl) (fun _ _ h=>bO h) (eN _ _ _ _) aa aa (by omega) aa rfl (fun k' w v hk h=>dK h (fun b=>if_neg hk) (fun b=>if_neg hk) (by omega)) (fun w v h=>fS h (fun b=>if_pos rfl) (fun b=>if_pos rfl)) rfl)
   (nC (cA (aX (G:=Rw 1 (ah (aw (fun a b=>if a=i then z ((N+2)*k+b) else z ((N+2)*a+b)) (fun a b=>if a=i then ln ((N+2)*k+b) else ln ((N+2)*a+b)) (N+2) 1)) (N+2)) rfl (fun _ _ h=>aE.rw h))
   (lB (nJ (M:=(fun a b=>if a=i then (fun i k=>ad (mk (ln ((N+2)*i+k)) (z ((N+2)*i+k)))) k b else (fun i k=>ad (mk (ln ((N+2)*i+k)) (z ((N+2)*i+k)))) a b)) (z:=(fun a b=>if a=i then z ((N+2)*k+b) else z ((N+2)*a+b))) (ln:=(fun a b=>if a=i then ln ((N+2)*k+b) else ln ((N+2)*a+b))) (K:=1) (n:=(N+2)) (c:=3) (k:=1) aa rfl (fun a b=>by (try dsimp only);split <;> rfl) (by omega) (by omega) (by omega) (by omega) (fun a b _ _=>by (try dsimp only);split;exact hE _;exact hE _) (fun a b=>by (try dsimp only);split;exact Nat.le_trans (hln _) (by omega);exact Nat.le_trans (hln _) (by omega)))
   (lB (jv (F:=(aw (fun i k=>z ((N+2)*i+k)) (fun i k=>ln ((N+2)*i+k)) (N+2) 1)) (n:=(N+2)) aa rfl (iG _ _ _ _) (by omega))
   (lB (bc (i:=i) (F:=(ah (aw (fun i k=>z ((N+2)*i+k)) (fun i k=>ln ((N+2)*i+k)) (N+2) 1))) Try.underlying24 (by kernel_rfl) aa aa (by omega) rfl)
   (lB (KU (G:=Rw 1 (ah (aH ((fun i k=>z ((N+2)*i+k)) i) ((fun i k=>ln ((N+2)*i+k)) i) 1)) (N+2)) (by kernel_rfl) aa (fun _ _ h=>bO h) rfl)
   (lB (aG (F:=(ah (aH ((fun i k=>z ((N+2)*i+k)) i) ((fun i k=>ln ((N+2)*i+k)) i) 1))) Try.underlying22 aa rfl)
   (bI (counted (N+2) (fun j=>ph (lp al xl ml z ln nl nz iz kz N i k ac xc zc mc nc ++ rK z ln N i k zc nc j)) (fun _=>0) (fun j p hp=>bJ (show p<(lp al xl ml z ln nl nz iz kz N i k ac xc zc mc nc).length from hp)) ⟨fun _=>rfl,fun w=>aE.nil 29 (aH (fun j=>ae (bo ((fun i k=>ad (mk (ln ((N+2)*i+k)) (z ((N+2)*i+k)))) i j) (aK (ad (mk nc zc)) ((fun i k=>ad (mk (ln ((N+2)*i+k)) (z ((N+2)*i+k)))) k j)))) (fun j=>(bo ((fun i k=>ad (mk (ln ((N+2)*i+k)) (z ((N+2)*i+k)))) i j) (aK (ad (mk nc zc)) ((fun i k=>ad (mk (ln ((N+2)*i+k)) (z ((N+2)*i+k)))) k j))).length) 6) w,aW,trivial⟩ (fun j hj=>by
   skip
   exact ⟨(nh,[.frm 65,.frm 64,.frm 0]),rfl,⟨aa,aa,aW,trivial⟩,(lB (bm aa aa)
   (lB (bc (i:=i) (F:=(ah (aw (fun i k=>z ((N+2)*i+k)) (fun i k=>ln ((N+2)*i+k)) (N+2) 1))) Try.underlying24 (by kernel_rfl) aa aa (by omega) rfl)
   (lB (KU (G:=Rw 1 (ah (aH ((fun i k=>z ((N+2)*i+k)) i) ((fun i k=>ln ((N+2)*i+k)) i) 1)) (N+2)) (by kernel_rfl) aa (fun _ _ h=>bO h) rfl)
   (lB (bc (i:=j) (F:=(ah (aH ((fun i k=>z ((N+2)*i+k)) i) ((fun i k=>ln ((N+2)*i+k)) i) 1))) Try.underlying22 (by kernel_rfl) aa aa (by omega) rfl)
   (lB (KU (G:=fun w v=>Rw 2 (fun ι w v=>aB w v ((z ((N+2)*i+j)) ι) 1) (ln ((N+2)*i+j)) w v) (by kernel_rfl) aa (fun _ _ h=>bO h) rfl)
   (lB (bc (i:=k) (F:=(ah (aw (fun i k=>z ((N+2)*i+k)) (fun i k=>ln ((N+2)*i+k)) (N+2) 1))) Try.underlying24 (by kernel_rfl) aa aa (by omega) rfl)
   (lB (KU (G:=Rw 1 (ah (aH ((fun i k=>z ((N+2)*i+k)) k) ((fun i k=>ln ((N+2)*i+k)) k) 1)) (N+2)) (by kernel_rfl) aa (fun _ _ h=>bO h) rfl)
   (lB (bc (i:=j) (F:=(ah (aH ((fun i k=>z ((N+2)*i+k)) k) ((fun i k=>ln ((N+2)*i+k)) k) 1))) Try.underlying22 (by kernel_rfl) aa aa (by omega) rfl)
   (lB (KU (G:=fun w v=>Rw 2 (fun ι w v=>aB w v ((z ((N+2)*k+j)) ι) 1) (ln ((N+2)*k+j)) w v) (by kernel_rfl) aa (fun _ _ h=>bO h) rfl)
   (lB (lf (c:=3) (A:=(ad (mk nc zc))) (B:=((fun i k=>ad (mk (ln ((N+2)*i+k)) (z ((N+2)*i+k)))) k j)) (z:=zc) (n:=nc) (y:=(z ((N+2)*k+j))) (m:=(ln ((N+2)*k+j))) (k:=1) (l:=1) (K:=5) (Rw.To 2 (fun ι w v=>KI w v (ac ι) ((fun ι=>(xc ι).take 1) ι) (zc ι) 1) nc (fun _ _ _ _ h=>And.right h)) (Rw.To 2 (fun ι w v=>aB w v ((z ((N+2)*k+j)) ι) 1) (ln ((N+2)*k+j)) (fun _ _ _ _ h=>h)) (rfl) (rfl) rfl (by omega) (by have:=hln ((N+2)*k+j);omega) (by omega) (by omega) (by omega) (fun q=>(hX j).bd q))
   (lB (rY (F:=(aH (fun j=>ae (bo ((fun i k=>ad (mk (ln ((N+2)*i+k)) (z ((N+2)*i+k)))) i j) (aK (ad (mk nc zc)) ((fun i k=>ad (mk (ln ((N+2)*i+k)) (z ((N+2)*i+k)))) k j)))) (fun j=>(bo ((fun i k=>ad (mk (ln ((N+2)*i+k)) (z ((N+2)*i+k)))) i j) (aK (ad (mk nc zc)) ((fun i k=>ad (mk (ln ((N+2)*i+k)) (z ((N+2)*i+k)))) k j))).length) 6)) (i:=j) (ne (A:=((fun i k=>ad (mk (ln ((N+2)*i+k)) (z ((N+2)*i+k)))) i j)) (B:=(aK (ad (mk nc zc)) ((fun i k=>ad (mk (ln ((N+2)*i+k)) (z ((N+2)*i+k)))) k j))) (z:=(z ((N+2)*i+j))) (n:=(ln ((N+2)*i+j))) (y:=(ae (aK (ad (mk nc zc)) ((fun i k=>ad (mk (ln ((N+2)*i+k)) (z ((N+2)*i+k)))) k j)))) (m:=(aK (ad (mk nc zc)) ((fun i k=>ad (mk (ln ((N+2)*i+k)) (z ((N+2)*i+k)))) k j)).length) (k:=1) (l:=5) (K:=6) (Rw.To 2 (fun ι w v=>aB w v ((z ((N+2)*i+j)) ι) 1) (ln ((N+2)*i+j)) (fun _ _ _ _ h=>h)) (Rw.To 2 (fun ι w v=>au w v ((ae (aK (ad (mk nc zc)) ((fun i k=>ad (mk (ln ((N+2)*i+k)) (z ((N+2)*i+k)))) k j))) ι) 5) ((aK (ad (mk nc zc)) ((fun i k=>ad (mk (ln ((N+2)*i+k)) (z ((N+2)*i+k)))) k j)).length) (fun _ _ _ _ h=>au.i h)) (rfl) (cX (hX j).nrm) rfl (by have:=hln ((N+2)*i+j);omega) (by have:=(hX j).len;omega) (by omega) (by omega) (fun q=>(hA j).bd q)) rfl (fun w v h=>Rw.to (sz:=2) (n:=(bo ((fun i k=>ad (mk (ln ((N+2)*i+k)) (z ((N+2)*i+k)))) i j) (aK (ad (mk nc zc)) ((fun i k=>ad (mk (ln ((N+2)*i+k)) (z ((N+2)*i+k)))) k j))).length) (F:=(fun ι w v=>au w v ((ae (bo ((fun i k=>ad (mk (ln ((N+2)*i+k)) (z ((N+2)*i+k)))) i j) (aK (ad (mk nc zc)) ((fun i k=>ad (mk (ln ((N+2)*i+k)) (z ((N+2)*i+k)))) k j)))) ι) 6)) h fun _ _ _ _ h=>au.i h))
   (lB (fY (n:=j) (F:=(aH (fun j=>ae (bo ((fun i k=>ad (mk (ln ((N+2)*i+k)) (z ((N+2)*i+k)))) i j) (aK (ad (mk nc zc)) ((fun i k=>ad (mk (ln ((N+2)*i+k)) (z ((N+2)*i+k)))) k j)))) (fun j=>(bo ((fun i k=>ad (mk (ln ((N+2)*i+k)) (z ((N+2)*i+k)))) i j) (aK (ad (mk nc zc)) ((fun i k=>ad (mk (ln ((N+2)*i+k)) (z ((N+2)*i+k)))) k j))).length) 6)) Try.underlying22 (by kernel_rfl) (slI _ _ _) (iH _ _ _) aa aa (by omega) rfl)
   (lB (bt aa (by omega) rfl (by omega) (by omega))
   aA)))))))))))))⟩)
   (lB (tlF aa aa)
   aA)
   (fun q hq w v h=>by
    simp only [mU,List.mem_cons,List.not_mem_nil,or_false] at hq
    rcases hq with rfl
    ·exact (fun h=>h) h)) (jA (kv (e:=22) (n:=(N+2)) (F:=(aw (fun i k=>z ((N+2)*i+k)) (fun i k=>ln ((N+2)*i+k)) (N+2) 1)) (by omega) aa rfl)
   (nC (cA (aX (G:=Rw 1 (ah (aH (fun j=>ae (bo ((fun i k=>ad (mk (ln ((N+2)*i+k)) (z ((N+2)*i+k)))) i j) (aK (ad (mk nc zc)) ((fun i k=>ad (mk (ln ((N+2)*i+k)) (z ((N+2)*i+k)))) k j)))) (fun j=>(bo ((fun i k=>ad (mk (ln ((N+2)*i+k)) (z ((N+2)*i+k)))) i j) (aK (ad (mk nc zc)) ((fun i k=>ad (mk (ln ((N+2)*i+k)) (z ((N+2)*i+k)))) k j))).length) 6)) (N+2)) rfl (fun _ _ h=>aE.rw h))
   (lB (jJ (i:=i) (n:=(N+2)) Try.underlying24 (by kernel_rfl) aa aa (by omega) rfl)
   (lB (LU (i:=i) (n:=(N+2)) (F:=(aw (fun i k=>z ((N+2)*i+k)) (fun i k=>ln ((N+2)*i+k)) (N+2) 1)) (F':=(aw (fun a b=>if a=i then ae (bo ((fun i k=>ad (mk (ln ((N+2)*i+k)) (z ((N+2)*i+k)))) i b) (aK (ad (mk nc zc)) ((fun i k=>ad (mk (ln ((N+2)*i+k)) (z ((N+2)*i+k)))) k b))) else z ((N+2)*a+b)) (fun a b=>if a=i then (bo ((fun i k=>ad (mk (ln ((N+2)*i+k)) (z ((N+2)*i+k)))) i b) (aK (ad (mk nc zc)) ((fun i k=>ad (mk (ln ((N+2)*i+k)) (z ((N+2)*i+k)))) k b))).length else ln ((N+2)*a+b)) (N+2) 6)) (G:=Rw 1 (ah (aH (fun j=>ae (bo ((fun i k=>ad (mk (ln ((N+2)*i+k)) (z ((N+2)*i+k)))) i j) (aK (ad (mk nc zc)) ((fun i k=>ad (mk (ln ((N+2)*i+k)) (z ((N+2)*i+k)))) k j)))) (fun j=>(bo ((fun i k=>ad (mk (ln ((N+2)*i+k)) (z ((N+2)*i+k)))) i j) (aK (ad (mk nc zc)) ((fun i k=>ad (mk (ln ((N+2)*i+k)) (z ((N+2)*i+k)))) k j))).length) 6)) (N+2)) (.tmp 119) (.tmp 120) (by kernel_rfl) (fun _ _ h=>bO h) (eN _ _ _ _) aa aa (by omega) aa rfl (fun k' w v hk h=>dK h (fun b=>if_neg hk) (fun b=>if_neg hk) (by omega)) (fun w v h=>fS h (fun b=>if_pos rfl) (fun b=>if_pos rfl)) rfl)
   (nC (cA (aX (G:=Rw 1 (ah (aw (fun a b=>if a=i then ae (bo ((fun i k=>ad (mk (ln ((N+2)*i+k)) (z ((N+2)*i+k)))) i b) (aK (ad (mk nc zc)) ((fun i k=>ad (mk (ln ((N+2)*i+k)) (z ((N+2)*i+k)))) k b))) else z ((N+2)*a+b)) (fun a b=>if a=i then (bo ((fun i k=>ad (mk (ln ((N+2)*i+k)) (z ((N+2)*i+k)))) i b) (aK (ad (mk nc zc)) ((fun i k=>ad (mk (ln ((N+2)*i+k)) (z ((N+2)*i+k)))) k b))).length else ln ((N+2)*a+b)) (N+2) 6)) (N+2)) rfl (fun _ _ h=>aE.rw h))
   (lB (nJ (M:=(fun a b=>if a=i then (bo ((fun i k=>ad (mk (ln ((N+2)*i+k)) (z ((N+2)*i+k)))) i b) (aK (ad (mk nc zc)) ((fun i k=>ad (mk (ln ((N+2)*i+k)) (z ((N+2)*i+k)))) k b))) else (fun i k=>ad (mk (ln ((N+2)*i+k)) (z ((N+2)*i+k)))) a b)) (z:=(fun a b=>if a=i then ae (bo ((fun i k=>ad (mk (ln ((N+2)*i+k)) (z ((N+2)*i+k)))) i b) (aK (ad (mk nc zc)) ((fun i k=>ad (mk (ln ((N+2)*i+k)) (z ((N+2)*i+k)))) k b))) else z ((N+2)*a+b))) (ln:=(fun a b=>if a=i then (bo ((fun i k=>ad (mk (ln ((N+2)*i+k)) (z ((N+2)*i+k)))) i b) (aK (ad (mk nc zc)) ((fun i k=>ad (mk (ln ((N+2)*i+k)) (z ((N+2)*i+k)))) k b))).length else ln ((N+2)*a+b))) (K:=6) (n:=(N+2)) (c:=6) (k:=6) aa rfl (fun a b=>by (try dsimp only);split;exact cX (hA b).nrm;exact rfl) (by omega) (by omega) (by omega) (by omega) (fun a b _ _=>by (try dsimp only);split;exact hA b;exact (hE _).more (by omega) (by omega)) (fun a b=>by (try dsimp only);split;exact Nat.le_trans (hA b).len (by omega);exact Nat.le_trans (hln _) (by omega)))
   (lB (zR (A:=(an (N+2) (fun i k=>ad (mk (ln ((N+2)*i+k)) (z ((N+2)*i+k)))))) (z:=(ae (an (N+2) (fun i k=>ad (mk (ln ((N+2)*i+k)) (z ((N+2)*i+k))))))) (n:=(an (N+2) (fun i k=>ad (mk (ln ((N+2)*i+k)) (z ((N+2)*i+k))))).length) (k:=2000) (Rw.To 2 (fun ι w v=>au w v ((ae (an (N+2) (fun i k=>ad (mk (ln ((N+2)*i+k)) (z ((N+2)*i+k)))))) ι) 2000) ((an (N+2) (fun i k=>ad (mk (ln ((N+2)*i+k)) (z ((N+2)*i+k))))).length) (fun _ _ _ _ h=>au.i h)) (cX (jy _ _)) rfl (by have:=hDD.len;omega) (by omega))
   (lB (Bw (z:=(ae (an (N+2) (fun a b=>if a=k then (fun i k=>ad (mk (ln ((N+2)*i+k)) (z ((N+2)*i+k)))) i b else if a=i then (fun i k=>ad (mk (ln ((N+2)*i+k)) (z ((N+2)*i+k)))) k b else (fun i k=>ad (mk (ln ((N+2)*i+k)) (z ((N+2)*i+k)))) a b)))) (n:=(an (N+2) (fun a b=>if a=k then (fun i k=>ad (mk (ln ((N+2)*i+k)) (z ((N+2)*i+k)))) i b else if a=i then (fun i k=>ad (mk (ln ((N+2)*i+k)) (z ((N+2)*i+k)))) k b else (fun i k=>ad (mk (ln ((N+2)*i+k)) (z ((N+2)*i+k)))) a b)).length) (y:=(ae (bK (an (N+2) (fun i k=>ad (mk (ln ((N+2)*i+k)) (z ((N+2)*i+k)))))))) (m:=(bK (an (N+2) (fun i k=>ad (mk (ln ((N+2)*i+k)) (z ((N+2)*i+k)))))).length) (k:=2000) (l:=2000) (Rw.To 2 (fun ι w v=>au w v ((ae (an (N+2) (fun a b=>if a=k then (fun i k=>ad (mk (ln ((N+2)*i+k)) (z ((N+2)*i+k)))) i b else if a=i then (fun i k=>ad (mk (ln ((N+2)*i+k)) (z ((N+2)*i+k)))) k b else (fun i k=>ad (mk (ln ((N+2)*i+k)) (z ((N+2)*i+k)))) a b))) ι) 2000) ((an (N+2) (fun a b=>if a=k then (fun i k=>ad (mk (ln ((N+2)*i+k)) (z ((N+2)*i+k)))) i b else if a=i then (fun i k=>ad (mk (ln ((N+2)*i+k)) (z ((N+2)*i+k)))) k b else (fun i k=>ad (mk (ln ((N+2)*i+k)) (z ((N+2)*i+k)))) a b)).length) (fun _ _ _ _ h=>au.i h)) (Rw.To 2 (fun ι w v=>au w v ((ae (bK (an (N+2) (fun i k=>ad (mk (ln ((N+2)*i+k)) (z ((N+2)*i+k))))))) ι) 2000) ((bK (an (N+2) (fun i k=>ad (mk (ln ((N+2)*i+k)) (z ((N+2)*i+k)))))).length) (fun _ _ _ _ h=>au.i h)) (by have:=hDB.len;omega) (by have:=hDD.neg.len;omega) (by omega) (by omega) (zO (A:=(bK (an (N+2) (fun i k=>ad (mk (ln ((N+2)*i+k)) (z ((N+2)*i+k))))))) (same_eq (jy _ _) (ra (by omega) hi hk hik (fun i k=>ad (mk (ln ((N+2)*i+k)) (z ((N+2)*i+k)))))) (cX (mV (jy _ _)))))
   (lB (aG (F:=(fun ι w v=>au w v ((ae (an (N+2) (fun a b=>if a=i then (fun i k=>ad (mk (ln ((N+2)*i+k)) (z ((N+2)*i+k)))) k b else (fun i k=>ad (mk (ln ((N+2)*i+k)) (z ((N+2)*i+k)))) a b))) ι) 2000)) Try.underlying29 aa rfl)
   (lB (bi (op:=.eql) aa (aS (decide_eq_true (by rw [show (an (N+2) (fun a b=>if a=i then (fun i k=>ad (mk (ln ((N+2)*i+k)) (z ((N+2)*i+k)))) k b else (fun i k=>ad (mk (ln ((N+2)*i+k)) (z ((N+2)*i+k)))) a b)) = [] from rh (by omega) hi hk hik (fun i k=>ad (mk (ln ((N+2)*i+k)) (z ((N+2)*i+k))))];rfl)) (by simp)))
   (lB (Bw (z:=(ae (an (N+2) (fun a b=>if a=i then (bo ((fun i k=>ad (mk (ln ((N+2)*i+k)) (z ((N+2)*i+k)))) i b) (aK (ad (mk nc zc)) ((fun i k=>ad (mk (ln ((N+2)*i+k)) (z ((N+2)*i+k)))) k b))) else (fun i k=>ad (mk (ln ((N+2)*i+k)) (z ((N+2)*i+k)))) a b)))) (n:=(an (N+2) (fun a b=>if a=i then (bo ((fun i k=>ad (mk (ln ((N+2)*i+k)) (z ((N+2)*i+k)))) i b) (aK (ad (mk nc zc)) ((fun i k=>ad (mk (ln ((N+2)*i+k)) (z ((N+2)*i+k)))) k b))) else (fun i k=>ad (mk (ln ((N+2)*i+k)) (z ((N+2)*i+k)))) a b)).length) (y:=(ae (an (N+2) (fun i k=>ad (mk (ln ((N+2)*i+k)) (z ((N+2)*i+k))))))) (m:=(an (N+2) (fun i k=>ad (mk (ln ((N+2)*i+k)) (z ((N+2)*i+k))))).length) (k:=2000) (l:=2000) (Rw.To 2 (fun ι w v=>au w v ((ae (an (N+2) (fun a b=>if a=i then (bo ((fun i k=>ad (mk (ln ((N+2)*i+k)) (z ((N+2)*i+k)))) i b) (aK (ad (mk nc zc)) ((fun i k=>ad (mk (ln ((N+2)*i+k)) (z ((N+2)*i+k)))) k b))) else (fun i k=>ad (mk (ln ((N+2)*i+k)) (z ((N+2)*i+k)))) a b))) ι) 2000) ((an (N+2) (fun a b=>if a=i then (bo ((fun i k=>ad (mk (ln ((N+2)*i+k)) (z ((N+2)*i+k)))) i b) (aK (ad (mk nc zc)) ((fun i k=>ad (mk (ln ((N+2)*i+k)) (z ((N+2)*i+k)))) k b))) else (fun i k=>ad (mk (ln ((N+2)*i+k)) (z ((N+2)*i+k)))) a b)).length) (fun _ _ _ _ h=>au.i h)) (Rw.To 2 (fun ι w v=>au w v ((ae (an (N+2) (fun i k=>ad (mk (ln ((N+2)*i+k)) (z ((N+2)*i+k)))))) ι) 2000) ((an (N+2) (fun i k=>ad (mk (ln ((N+2)*i+k)) (z ((N+2)*i+k))))).length) (fun _ _ _ _ h=>au.i h)) (by have:=hDC.len;omega) (by have:=hDD.len;omega) (by omega) (by omega) (zO (A:=(an (N+2) (fun i k=>ad (mk (ln ((N+2)*i+k)) (z ((N+2)*i+k)))))) (same_eq (jy _ _) (rt (by omega) hi hk hik (ad (mk nc zc)) (fun i k=>ad (mk (ln ((N+2)*i+k)) (z ((N+2)*i+k)))))) (cX (jy _ _))))
   (lB (ei)
   aA))))))))))))))))))))))))))))))))))))))))))))))))))
  (aJ [.fact 0 (.one (.s)),.fact 1 (.one (.i)),.fact 2 (.one (.i)),.fact 3 (.one (.i)),.fact 4 (.one (.s))] ⟨Rw.Is 1 (bF al xl ml) nl,fun _ _ h=>h▸aQ _,fun _ _ h=>h▸aQ _,fun _ _ h=>h▸aQ _,Rw.Is 2 (fun ι w v=>KR w v (ac ι) (xc ι)) mc,trivial⟩) (fun _ _ _ h=>h)
theorem walk {nl:Nat}{ml:Nat->Nat}{al:Nat->Nat->Bool}{xl:Nat->Nat->List Nat}{w:World}{vl:Value} (hnl:nl<=9223372036854775807∧∀i,i<nl->ml i<=9223372036854775807) (hll:Rw 1 (bF al xl ml) nl w vl) (nz:Int) (_ : -9223372036854775808<=nz) (_:nz<=9223372036854775807) (iz:Int) (_ : -9223372036854775808<=iz) (_:iz<=9223372036854775807) (kz:Int) (_ : -9223372036854775808<=kz) (_:kz<=9223372036854775807){mc:Nat}{ac:Nat->Bool}{xc:Nat->List Nat}{vc:Value} (hmc:mc<=9223372036854775807) (hlc:Rw 2 (fun i w v=>KR w v (ac i) (xc i)) mc w vc):Calls Try.prog 5 #[vl,.int .i64 nz,.int .i64 iz,.int .i64 kz,vc] w (lE w true):=by
 obtain ⟨gI,z,ln,dO,hml,hz,hN,hN0,hln,hE⟩:=np hnl hll
 obtain ⟨N,bw⟩:∃N,bX nz 3=N:=⟨_,rfl⟩
 obtain ⟨i,hiw⟩:∃i,bX iz (N+2)=i:=⟨_,rfl⟩
 obtain ⟨k,hkw⟩:∃k,bX kz (N+2)=k:=⟨_,rfl⟩
 by_cases hik:i=k
 ·exact ek (rJ (nc:=min mc 2) hnl.1 hml hz hN hN0 hln hE hmc (fun _=>rfl) rfl (by omega) (jK hlc) bw (bw▸jR _ (by omega)) hiw (hiw▸jR _ (by omega)) hkw (hkw▸jR _ (by omega)) hik) (vs:=[vl,.int .i64 nz,.int .i64 iz,.int .i64 kz,vc]) ⟨eg dO,fun _ _=>rfl,fun _ _=>rfl,fun _ _=>rfl,lq hlc,trivial⟩
 ·exact ek (rO (nc:=min mc 2) hnl.1 hml hz hN hN0 hln hE hmc (fun _=>rfl) rfl (by omega) (jK hlc) bw (bw▸jR _ (by omega)) hiw (hiw▸jR _ (by omega)) hkw (hkw▸jR _ (by omega)) hik) (vs:=[vl,.int .i64 nz,.int .i64 iz,.int .i64 kz,vc]) ⟨eg dO,fun _ _=>rfl,fun _ _=>rfl,fun _ _=>rfl,lq hlc,trivial⟩
theorem lifted (os:Os) (started:os.Started) (H:Type) (enc:TypeId×Value->H) :
  ReturnsInHanded {} Try.checked os 5 .any (Rows.detLawsSpec.pre6 enc Try.prog Try.f5 Rows.detLawsRow.domain false) (Rows.detLawsSpec.post enc Try.prog Try.f5 false true false false):=by
 refine returnsInHanded_of_change (C:=Try.checked) Try.own started (by kernel_rfl) Try.func5
  (ChangeSpec.witness6 (enc:=enc) (C:=Try.checked) false ⟨#[],#[.slice none 0 0,.int .i64 0,.int .i64 0,.int .i64 0,.slice none 0 0],[]⟩ 8 (by kernel_rfl) (by kernel_rfl) (by kernel_rfl) (by kernel_rfl)) ?_
 intro W base args ds gs before hval0 hW _ _
 have hval:∀(j:Nat) t v,Try.f5.params[j]?=some t->args[j]?=some v->Value.okWide Try.prog W .any base t v:=hval0
 obtain ⟨p,q,hA0,hV,rfl,_,_⟩:=id hW
 have hA:DataW.TrodAll enc Try.prog W 0 (fun _=>true) true Try.f5.params.toList args.toList ds p:=hA0
 rw [Try.params5] at hA hval
 obtain ⟨v0,sG,d0,ds0,p0,q0,hargs,rfl,rfl,h0,r0⟩:=trodAll_cons hA
 obtain ⟨v1,vs1,d1,ds1,p1,q1,rfl,rfl,rfl,h1,r1⟩:=trodAll_cons r0
 obtain ⟨v2,vs2,d2,sH,p2,q2,rfl,rfl,rfl,h2,r2⟩:=trodAll_cons r1
 obtain ⟨v3,vs3,d3,ds3,p3,q3,rfl,rfl,rfl,h3,r3⟩:=trodAll_cons r2
 obtain ⟨v4,vs4,d4,sb,p4,q4,rfl,rfl,rfl,h4,r4⟩:=trodAll_cons r3
 obtain ⟨rfl,rfl,rfl⟩:=trodAll_nil r4
 obtain rfl:args = #[v0,v1,v2,v3,v4]:=by cases args;simp_all
 obtain ⟨n0,m0,a0,xs0,l0,s0⟩:=no h0 (hval 0 22 v0 rfl rfl)
 obtain ⟨n1,rfl,rfl,rfl,f1⟩:=open_int Try.underlying3 (hval 1 3 v1 rfl rfl) h1
 obtain ⟨n2,rfl,rfl,rfl,f2⟩:=open_int Try.underlying3 (hval 2 3 v2 rfl rfl) h2
 obtain ⟨n3,rfl,rfl,rfl,f3⟩:=open_int Try.underlying3 (hval 3 3 v3 rfl rfl) h3
 obtain ⟨n4,a4,xs4,l4,s4⟩:=nj h4 (hval 4 29 v4 rfl rfl)
 refine (walk l0 s0 n1 (gK f1) (gL f1) n2 (gK f2) (gL f2) n3 (gK f3) (gL f3) l4 s4).mono fun e W' ⟨he,hg⟩=>?_
 subst he
 refine ⟨_,rfl,nS Try.laidOut rfl (by kernel_rfl) Try.underlying4 ?_ ?_ hW hg⟩
 ·rw [Try.params5];decide +kernel
 ·rw [Try.params5]
  intro ds h
  match ds,h with
  | [_,_,_,_,_],_=>rfl
theorem holds:Rows.DetLawsSaid:=
 OpenClaim.holds_of_wide 5 Try.f5 rfl rfl rfl rfl rfl rfl rfl ⟨rfl,rfl,rfl,rfl,rfl⟩ rfl rfl rfl rfl rfl (by kernel_rfl) Try.func5 (by kernel_rfl)
  (of_decide_eq_true (by kernel_rfl)) (by unfold Func.isWrapper;first | (rw [if_pos (by decide +kernel)];kernel_rfl) | (rw [if_neg (by decide +kernel)];exact ⟨rfl,rfl⟩))
  (fun os started H enc _=>lifted os started H enc)
end Go.Proofs.Ytomamliepbhegaa.detlaws
