/- DetTurned -/
import Derived.Test.YtomamliepbhegaaDtY
import Derived.Test.YtomamliepbhegaaDtP
import Derived.Test.YtomamliepbhegaaDtL
set_option maxRecDepth 100000
namespace Go.Proofs.Ytomamliepbhegaa.dturned
open Go.ChangeShapes Go.WideShapes Go.ChangeAt Go.RowKit
open Go.Proofs.Ytomamliepbhegaa.Sym hiding val run start
open Go.Proofs.Ytomamliepbhegaa.dlaw
theorem aX {Φ:PH}{x q:Nat}{G:WP} (hx:Φ x=G) (h:∀w v,Φ q w v->G w v) (X:Nat->Prop) (w:World) (v:Value) (hv:(Arg.parts (.one .s) [(0,0,q)]).ok Φ X w v):(Arg.fact x).ok Φ X w v:=fun w1 hw=>by
 rw [hx]
 exact h _ _ (hv.2 (0,0,q) (List.mem_singleton.2 rfl) w1 hw)
theorem jv {Φ:PH}{p x n j:Nat}{J:List Nat}{F:PH} (hp:∀w v,Φ p w v->Rw 1 (ah F) n w v) (hx:Φ x=aE 22 F n) (hS:∀i w s,F i w s->∃p n c,s = .slice p n c) (hn:n<=1000000):aj Φ Try.prog ⟨18,[.fact p],[oS x],.ee J j⟩:=
 jr (mz (F:=F) (n:=n) hS hn) ⟨hp,trivial⟩ ⟨⟨rfl,⟨rfl,rfl,fun _ _ h=>hx▸h⟩,trivial⟩,trivial⟩
theorem dK {z y:Nat->Nat->Nat->Int}{l k:Nat->Nat->Nat}{m K L i:Nat}{w:World}{v:Value} (h:aw z l m K i w v) (hz:∀b,y i b=z i b) (hl:∀b,k i b=l i b) (hK:K<=L):aw y k m L i w v:=
 Rw.to (sz:=1) (n:=m) h fun b w v _ ⟨s,e,hs⟩=>⟨s,e,by
  show Rw 2 (If (y i b) L) (k i b) w s
  rw [hl b,hz b]
  exact Rw.to (sz:=2) (n:=l i b) (F:=If (z i b) K) hs fun _ _ _ _ h=>h.more hK⟩
theorem fS {z:Nat->Nat->Int}{y:Nat->Nat->Nat->Int}{l:Nat->Nat}{k:Nat->Nat->Nat}{m K i:Nat}{w:World}{v:Value} (h:Rw 1 (ah (aH z l K)) m w v) (hz:∀b,y i b=z b) (hl:∀b,k i b=l b):aw y k m K i w v:=
 Rw.to (sz:=1) (n:=m) h fun b w v _ ⟨s,e,hs⟩=>⟨s,e,by
  show Rw 2 (If (y i b) K) (k i b) w s
  rw [hl b,hz b]
  exact hs⟩
theorem same_eq {A B:List Int} (hB:dg B) (h:B=A):ad (mk B.length (ae B))=A:=by rw [cX hB];exact h
theorem rQ {n:Nat} (hn:n<=4) (M:Nat->Nat->List Int):an n (fun i k=>M k i)=an n M:=jH (jy _ _) (jy _ _) fun t=>by
 rw [nu,nu]
 exact qZ (a:=fun i j=>vL t (M i j)) hn
theorem rR {n i:Nat} (hn:n<=4) (hi:i<n) (C:List Int) (M:Nat->Nat->List Int) (hN:dg (aK C (an n M))):an n (fun a b=>if a=i then aK C (M i b) else M a b)=aK C (an n M):=jH (jy _ _) hN fun t=>by
 rw [nt,nu,nu,<- qX (a:=fun i j=>vL t (M i j)) hn hi]
 congr 1
 funext a
 unfold put
 split
 ·funext b;rw [nt]
 ·rfl
theorem jK {mc:Nat}{ac:Nat->Bool}{xc:Nat->List Nat}{w:World}{vc:Value} (h:Rw 2 (fun i w v=>KR w v (ac i) (xc i)) mc w vc):EOk 3 1 (ad (mk (min mc 2) (fun j=>sg (ac j) (Proofs.Ytomamliepbhegaa.val 4294967296 ((xc j).take 1))))):=by
 refine zE (by omega) fun j hj=>?_
 obtain ⟨p2,c2,rfl,_,he2⟩:=h
 obtain ⟨_,_,_,l,_,_,s,_,_,h2⟩:=he2 j (by omega)
 show Bd (sg (ac j) (Proofs.Ytomamliepbhegaa.val 4294967296 ((xc j).take 1))).natAbs 1
 rw [Lf]
 exact Bd.row _ h2 1
def nT (al:Nat->Nat->Bool) (xl:Nat->Nat->List Nat) (ml:Nat->Nat) (z:Nat->Nat->Int) (ln:Nat->Nat) (nl:Nat) (nz iz:Int) (N i:Nat) (ac:Nat->Bool) (xc:Nat->List Nat) (zc:Nat->Int) (mc nc:Nat):List WP:=[Rw 1 (bF al xl ml) nl,Ni nz,Ni iz,fun w v=>Rw 2 (fun ι w v=>KR w v (ac ι) (xc ι)) mc w v,Nz N,Ni 1,Ni ((N+1:Nat):Int),Nz i,fun w v=>Rw 2 (fun ι w v=>KI w v (ac ι) ((fun ι=>(xc ι).take 1) ι) (zc ι) 1) nc w v,Rw 1 (ah (aw (fun i k=>z ((N+1)*i+k)) (fun i k=>ln ((N+1)*i+k)) (N+1) 1)) (N+1),Rw 1 (ah (aP (fun i k=>ad (mk (ln ((N+1)*i+k)) (z ((N+1)*i+k)))) (N+1) 5)) (N+1),aE 22 (aw (fun k j=>z ((N+1)*j+k)) (fun k j=>ln ((N+1)*j+k)) (N+1) 1) (N+1),fun w v=>Rw 2 (fun ι w v=>au w v ((ae (an (N+1) (fun i k=>ad (mk (ln ((N+1)*i+k)) (z ((N+1)*i+k)))))) ι) 2000) ((an (N+1) (fun i k=>ad (mk (ln ((N+1)*i+k)) (z ((N+1)*i+k))))).length) w v,Rw 1 (ah (aw (fun k j=>z ((N+1)*j+k)) (fun k j=>ln ((N+1)*j+k)) (N+1) 1)) (N+1),fun w v=>Rw 2 (fun ι w v=>au w v ((ae (an (N+1) (fun k j=>(fun i k=>ad (mk (ln ((N+1)*i+k)) (z ((N+1)*i+k)))) j k))) ι) 2000) ((an (N+1) (fun k j=>(fun i k=>ad (mk (ln ((N+1)*i+k)) (z ((N+1)*i+k)))) j k)).length) w v,aE 22 (aw (fun i k=>z ((N+1)*i+k)) (fun i k=>ln ((N+1)*i+k)) (N+1) 1) (N+1),Ptr 1 (ah (aw (fun i k=>z ((N+1)*i+k)) (fun i k=>ln ((N+1)*i+k)) (N+1) 1) i),Rw 1 (ah (aH ((fun i k=>z ((N+1)*i+k)) i) ((fun i k=>ln ((N+1)*i+k)) i) 1)) (N+1),Nz (N+1),aE 29 (aH (fun j=>ae (aK (ad (mk nc zc)) ((fun i k=>ad (mk (ln ((N+1)*i+k)) (z ((N+1)*i+k)))) i j))) (fun j=>(aK (ad (mk nc zc)) ((fun i k=>ad (mk (ln ((N+1)*i+k)) (z ((N+1)*i+k)))) i j)).length) 5) (N+1),At 1,fV ((aw (fun i k=>z ((N+1)*i+k)) (fun i k=>ln ((N+1)*i+k)) (N+1) 1) i),Rw 1 (ah (aH (fun j=>ae (aK (ad (mk nc zc)) ((fun i k=>ad (mk (ln ((N+1)*i+k)) (z ((N+1)*i+k)))) i j))) (fun j=>(aK (ad (mk nc zc)) ((fun i k=>ad (mk (ln ((N+1)*i+k)) (z ((N+1)*i+k)))) i j)).length) 5)) (N+1),aE 22 (aw (fun a b=>if a=i then ae (aK (ad (mk nc zc)) ((fun i k=>ad (mk (ln ((N+1)*i+k)) (z ((N+1)*i+k)))) i b)) else z ((N+1)*a+b)) (fun a b=>if a=i then (aK (ad (mk nc zc)) ((fun i k=>ad (mk (ln ((N+1)*i+k)) (z ((N+1)*i+k)))) i b)).length else ln ((N+1)*a+b)) (N+1) 5) (N+1),Rw 1 (ah (aw (fun a b=>if a=i then ae (aK (ad (mk nc zc)) ((fun i k=>ad (mk (ln ((N+1)*i+k)) (z ((N+1)*i+k)))) i b)) else z ((N+1)*a+b)) (fun a b=>if a=i then (aK (ad (mk nc zc)) ((fun i k=>ad (mk (ln ((N+1)*i+k)) (z ((N+1)*i+k)))) i b)).length else ln ((N+1)*a+b)) (N+1) 5)) (N+1),fun w v=>Rw 2 (fun ι w v=>au w v ((ae (an (N+1) (fun a b=>if a=i then (aK (ad (mk nc zc)) ((fun i k=>ad (mk (ln ((N+1)*i+k)) (z ((N+1)*i+k)))) i b)) else (fun i k=>ad (mk (ln ((N+1)*i+k)) (z ((N+1)*i+k)))) a b))) ι) 2000) ((an (N+1) (fun a b=>if a=i then (aK (ad (mk nc zc)) ((fun i k=>ad (mk (ln ((N+1)*i+k)) (z ((N+1)*i+k)))) i b)) else (fun i k=>ad (mk (ln ((N+1)*i+k)) (z ((N+1)*i+k)))) a b)).length) w v,fun w v=>Rw 2 (fun ι w v=>au w v ((ae (aK (ad (mk nc zc)) (an (N+1) (fun i k=>ad (mk (ln ((N+1)*i+k)) (z ((N+1)*i+k))))))) ι) 2000) ((aK (ad (mk nc zc)) (an (N+1) (fun i k=>ad (mk (ln ((N+1)*i+k)) (z ((N+1)*i+k)))))).length) w v]
def rS (z:Nat->Nat->Int) (ln:Nat->Nat) (N i:Nat) (zc:Nat->Int) (nc:Nat) (j:Nat):List WP:=[Nz j,aE 29 (aH (fun j=>ae (aK (ad (mk nc zc)) ((fun i k=>ad (mk (ln ((N+1)*i+k)) (z ((N+1)*i+k)))) i j))) (fun j=>(aK (ad (mk nc zc)) ((fun i k=>ad (mk (ln ((N+1)*i+k)) (z ((N+1)*i+k)))) i j)).length) 5) j,fun _ _=>True,Ptr 1 (ah (aw (fun i k=>z ((N+1)*i+k)) (fun i k=>ln ((N+1)*i+k)) (N+1) 1) i),Rw 1 (ah (aH ((fun i k=>z ((N+1)*i+k)) i) ((fun i k=>ln ((N+1)*i+k)) i) 1)) (N+1),Ptr 1 (ah (aH ((fun i k=>z ((N+1)*i+k)) i) ((fun i k=>ln ((N+1)*i+k)) i) 1) j),fun w v=>Rw 2 (fun ι w v=>aB w v ((z ((N+1)*i+j)) ι) 1) (ln ((N+1)*i+j)) w v,fun w v=>Rw 2 (fun ι w v=>au w v ((ae (aK (ad (mk nc zc)) ((fun i k=>ad (mk (ln ((N+1)*i+k)) (z ((N+1)*i+k)))) i j))) ι) 5) ((aK (ad (mk nc zc)) ((fun i k=>ad (mk (ln ((N+1)*i+k)) (z ((N+1)*i+k)))) i j)).length) w v,ah (aH (fun j=>ae (aK (ad (mk nc zc)) ((fun i k=>ad (mk (ln ((N+1)*i+k)) (z ((N+1)*i+k)))) i j))) (fun j=>(aK (ad (mk nc zc)) ((fun i k=>ad (mk (ln ((N+1)*i+k)) (z ((N+1)*i+k)))) i j)).length) 5) j,aE 29 (aH (fun j=>ae (aK (ad (mk nc zc)) ((fun i k=>ad (mk (ln ((N+1)*i+k)) (z ((N+1)*i+k)))) i j))) (fun j=>(aK (ad (mk nc zc)) ((fun i k=>ad (mk (ln ((N+1)*i+k)) (z ((N+1)*i+k)))) i j)).length) 5) (j+1),Nz (j+1)]
def nm:bf:=⟨[0,1,2,3,8,9,10,11,12,15,16,17,18,19,24,25,26,27,28,29,30,31,32,33,34,35,36,37,38,39,40,41,63,64,65,66,67,68,69,70,71,72,73,74,75,76,77,78,79],[(.slot 80,.i),(.slot 20,.s)],[(.one 0,27),(.one 1,.bT [4] 28),(.one 1,.lo 4)],[.closed (.one (.ci .i64 0)),.closed (.one (.nl)),.frm 0],27,[(28,19)]⟩
def nA:List Step:=[bQ [.fact 27,.fact 18] oT (ai .lss),
   bQ [.fact 9,.fact 7] [oP 30] (aI 24),
   bQ [.fact 30] [oS 31] (aL 22),
   bQ [.fact 31,.fact 27] [oP 32] (aI 22),
   bQ [.fact 32] [oS 33] (aL 29),
   .base ⟨20,[.fact 8,.fact 33],[⟨.one (.s),[(0,0,34),(0,2,35)]⟩],false⟩,
   .base ⟨0,[.fact 28,.row 1 [35]],[oS 36],.loose [] 4 0 (cf 22 22)⟩,
   bQ [.fact 27,.lit (.ci .i64 1)] [oN 37] (ai .add)]
def rU:List Step:=[bQ [.fact 27,.fact 18] oF (ai .lss)]
def rV (z:Nat->Nat->Int) (ln:Nat->Nat) (N _i:Nat) (k j:Nat):List WP:=[Nz j,aE 29 (aH (fun j=>z ((N+1)*j+k)) (fun j=>ln ((N+1)*j+k)) 1) j,fun _ _=>True,Ptr 1 (ah (aw (fun i k=>z ((N+1)*i+k)) (fun i k=>ln ((N+1)*i+k)) (N+1) 1) j),Rw 1 (ah (aH ((fun i k=>z ((N+1)*i+k)) j) ((fun i k=>ln ((N+1)*i+k)) j) 1)) (N+1),Ptr 1 (ah (aH ((fun i k=>z ((N+1)*i+k)) j) ((fun i k=>ln ((N+1)*i+k)) j) 1) k),fun w v=>Rw 2 (fun ι w v=>aB w v ((z ((N+1)*j+k)) ι) 1) (ln ((N+1)*j+k)) w v,ah (aH (fun j=>z ((N+1)*j+k)) (fun j=>ln ((N+1)*j+k)) 1) j,aE 29 (aH (fun j=>z ((N+1)*j+k)) (fun j=>ln ((N+1)*j+k)) 1) (j+1),Nz (j+1)]
def nB:bf:=⟨[0,1,2,3,8,9,10,11,12,24,25,26,27,28,29,30,31,32,33,34,35,36,37,38,39,40,41],[(.slot 14,.i),(.slot 13,.s)],[(.one 0,34),(.one 1,.bT [2] 35),(.one 1,.lo 2)],[.closed (.one (.ci .i64 0)),.closed (.one (.nl)),.frm 0],34,[(35,30)]⟩
def nD:List Step:=[bQ [.fact 34,.fact 6] oT (ai .lss),
   bQ [.fact 9,.fact 34] [oP 37] (aI 24),
   bQ [.fact 37] [oS 38] (aL 22),
   bQ [.fact 38,.fact 27] [oP 39] (aI 22),
   bQ [.fact 39] [⟨.one (.s),[(0,0,40),(0,2,41)]⟩] (aL 29),
   .base ⟨0,[.fact 35,.row 1 [41]],[oS 42],.loose [] 2 0 (cf 22 22)⟩,
   bQ [.fact 34,.lit (.ci .i64 1)] [oN 43] (ai .add)]
def rW:List Step:=[bQ [.fact 34,.fact 6] oF (ai .lss)]
def Br (z:Nat->Nat->Int) (ln:Nat->Nat) (N:Nat) (k:Nat):List WP:=[Nz k,aE 22 (aw (fun k j=>z ((N+1)*j+k)) (fun k j=>ln ((N+1)*j+k)) (N+1) 1) k,fun _ _=>True,aE 29 (aH (fun j=>z ((N+1)*j+k)) (fun j=>ln ((N+1)*j+k)) 1) (N+1),ah (aw (fun k j=>z ((N+1)*j+k)) (fun k j=>ln ((N+1)*j+k)) (N+1) 1) k,aE 22 (aw (fun k j=>z ((N+1)*j+k)) (fun k j=>ln ((N+1)*j+k)) (N+1) 1) (k+1),Nz (k+1)]
def sI:bf:=⟨[0,1,2,3,8,9,10,24,25,26,27,28,29,30,31,32,33,34,35,36,37,38],[(.slot 12,.i),(.slot 11,.s)],[(.one 0,27),(.one 1,.bT [1] 28),(.one 1,.lo 1)],[.closed (.one (.ci .i64 0)),.closed (.one (.nl)),.frm 0],27,[(28,11)]⟩
def sJ:List Step:=[bQ [.fact 27,.fact 6] oT (ai .lss),
   .loop nB [(nD,[.frm 43,.frm 42,.frm 0])] rW,
   .shut 2,
   .derive (.agg [.s 30 1]) (.agg [.s]) [(0,1,30)] 31,
   .base ⟨0,[.fact 28,.row 1 [31]],[oS 32],.loose [] 1 0 (cf 24 24)⟩,
   bQ [.fact 27,.lit (.ci .i64 1)] [oN 33] (ai .add)]
def Bs:List Step:=[bQ [.fact 27,.fact 6] oF (ai .lss)]
def Bu:List Step:=[.derive (.one (.ci .i64 1)) (.one (.lit (.ci .i64 1))) [] 5,
   .base ⟨8,[.fact 1,.lit (.ci .i64 4)],[oN 4],false⟩,
   bQ [.fact 5,.fact 4] [oN 6] (ai .add),
   .base ⟨8,[.fact 2,.fact 6],[oN 7],false⟩,
   .base ⟨17,[.fact 3,.lit (.ci .i64 2),.lit (.ci .i64 1)],[oS 8],false⟩,
   .base ⟨9,[.fact 0,.fact 6,.fact 6],[oS 9,oS 10],true⟩,
   .loop sI [(sJ,[.frm 33,.frm 32,.frm 0])] Bs,
   .base ⟨10,[.fact 9],[oS 12,oL (.ci .i64 0)],true⟩,
   .shut 1,
   .derive (.one (.s 24 1)) (.one (.s)) [(0,0,11)] 13,
   .base ⟨10,[.fact 13],[oS 14,oL (.ci .i64 0)],true⟩,
   .base ⟨18,[.fact 9],[oS 15],.ee [] 3⟩,
   bQ [.fact 9,.fact 7] [oP 16] (aI 24),
   bQ [.fact 16] [oS 17] (aL 22),
   bQ [.fact 17] [oN 18] (aD 22),
   .loop nm [(nA,[.frm 37,.frm 36,.frm 0])] rU,
   .shut 4,
   .derive (.one (.s 52 1)) (.one (.s)) [(0,0,19)] 22,
   .base ⟨0,[.fact 15,.fact 7],[oP 21],.joint [3] 20 (aI 24)⟩,
   .base ⟨0,[.fact 15,.fact 7,.any,.fact 22],[oS 23],.gF [] 3 0 20 (dN 22 (.tmp 96) (.tmp 97))⟩,
   .shut 3,
   .derive (.one (.s 43 0)) (.one (.s)) [(0,0,23)] 24,
   .base ⟨10,[.fact 24],[oS 25,oL (.ci .i64 0)],true⟩,
   .base ⟨21,[.fact 12,.fact 14],oT,false⟩,
   .base ⟨20,[.fact 8,.fact 12],[oS 26],false⟩,
   .base ⟨21,[.fact 25,.fact 26],oT,false⟩,
   .base ⟨11,[],oT,false⟩]
def Bv:List Out:=[oS 0,oN 1,oN 2,oS 3]
theorem path {al:Nat->Nat->Bool}{xl:Nat->Nat->List Nat}{ml:Nat->Nat}{z:Nat->Nat->Int}{ln:Nat->Nat}{nl:Nat}{nz iz:Int}{N i:Nat}{ac:Nat->Bool}{xc:Nat->List Nat}{zc:Nat->Int}{mc nc:Nat} (hnl:nl<=9223372036854775807) (hml:∀q,ml q<=9223372036854775807) (hz:∀q j,sg (al q j) (Proofs.Ytomamliepbhegaa.val 4294967296 ((xl q j).take 1))=z q j) (hN:∀q,q<nl->min (ml q) 3=ln q) (hN0:∀q,¬q<nl->ln q=0) (hln:∀q,ln q<=3) (hE:∀q,EOk 3 1 (ad (mk (ln q) (z q)))) (hmc:mc<=9223372036854775807) (hzc:∀j,sg (ac j) (Proofs.Ytomamliepbhegaa.val 4294967296 ((xc j).take 1))=zc j) (hNc:min mc 2=nc) (rP:nc<=2) (hEc:EOk 3 1 (ad (mk nc zc))) (bw:bX nz 4=N) (hN4:N<4) (hiw:bX iz (N+1)=i) (hi:i<N+1):aj (ph (nT al xl ml z ln nl nz iz N i ac xc zc mc nc)) Try.prog ⟨6,[.fact 0,.fact 1,.fact 2,.fact 3],oT,false⟩:=by
 have hX:∀j,EOk (3+3) (1+1+3) (aK (ad (mk nc zc)) ((fun i k=>ad (mk (ln ((N+1)*i+k)) (z ((N+1)*i+k)))) i j)):=fun j=>hEc.mul (hE _)
 have hDD:=fU (c:=3) (k:=1) (N+1) (fun i k=>ad (mk (ln ((N+1)*i+k)) (z ((N+1)*i+k)))) (fun _ _ _ _=>hE _)
 have hbd:=lh (c:=3) (k:=1) (by omega) (by omega) (N+1) (by omega)
 have hCD:EOk (3+((N+1)*3+1)) (1+bD 3 1 (N+1)+3) (aK (ad (mk nc zc)) (an (N+1) (fun i k=>ad (mk (ln ((N+1)*i+k)) (z ((N+1)*i+k)))))):=hEc.mul hDD
 have hDS:=fU (c:=6) (k:=5) (N+1) (fun a b=>if a=i then (aK (ad (mk nc zc)) ((fun i k=>ad (mk (ln ((N+1)*i+k)) (z ((N+1)*i+k)))) i b)) else (fun i k=>ad (mk (ln ((N+1)*i+k)) (z ((N+1)*i+k)))) a b) (fun a b _ _=>by
  dsimp only
  split
  ·exact hX b
  ·exact (hE _).more (by omega) (by omega))
 have hbS:=lh (c:=6) (k:=5) (by omega) (by omega) (N+1) (by omega)
 have hDT:=fU (c:=3) (k:=1) (N+1) (fun k j=>(fun i k=>ad (mk (ln ((N+1)*i+k)) (z ((N+1)*i+k)))) j k) (fun _ _ _ _=>hE _)
 exact aR Bv oT Bu Try.func6 (by kernel_rfl)
  (cA (gM rfl)
   (lB (cZ (n:=4) rfl aa (by omega) (by omega) bw rfl)
   (lB (cS aa aa (by omega) rfl (by omega) (by omega))
   (lB (Ah (n:=(N+1)) aa aa (by omega) (by omega) hiw rfl)
   (lB (Ak (a:=ac) (xs:=xc) (z:=zc) (n:=nc) 2 1 rfl rfl aa rfl hmc (by omega) hzc hNc)
   (lB (eh (n:=(N+1)) (m:=(N+1)) (ml:=ml) (ln:=ln) (z:=z) aa aa aa rfl rfl (by omega) (by omega) hnl hml hz hN hN0 (fun q=>Nat.le_trans (hln q) (by omega)))
   (bI (counted (N+1) (fun k=>ph (nT al xl ml z ln nl nz iz N i ac xc zc mc nc ++ Br z ln N k)) (fun _=>0) (fun k p hp=>bJ (show p<(nT al xl ml z ln nl nz iz N i ac xc zc mc nc).length from hp)) ⟨fun _=>rfl,fun w=>aE.nil 22 (aw (fun k j=>z ((N+1)*j+k)) (fun k j=>ln ((N+1)*j+k)) (N+1) 1) w,aW,trivial⟩ (fun k hk=>by
   skip
   exact ⟨(sJ,[.frm 33,.frm 32,.frm 0]),rfl,⟨aa,aa,aW,trivial⟩,(lB (bm aa aa)
   (bI (counted (N+1) (fun j=>ph ((nT al xl ml z ln nl nz iz N i ac xc zc mc nc ++ Br z ln N k) ++ rV z ln N i k j)) (fun _=>0) (fun j p hp=>bJ (show p<(nT al xl ml z ln nl nz iz N i ac xc zc mc nc ++ Br z ln N k).length from hp)) ⟨fun _=>rfl,fun w=>aE.nil 29 (aH (fun j=>z ((N+1)*j+k)) (fun j=>ln ((N+1)*j+k)) 1) w,aW,trivial⟩ (fun j hj=>by
   skip
   exact ⟨(nD,[.frm 43,.frm 42,.frm 0]),rfl,⟨aa,aa,aW,trivial⟩,(lB (bm aa aa)
   (lB (bc (i:=j) (F:=(ah (aw (fun i k=>z ((N+1)*i+k)) (fun i k=>ln ((N+1)*i+k)) (N+1) 1))) Try.underlying24 (by kernel_rfl) aa aa (by omega) rfl)
   (lB (KU (G:=Rw 1 (ah (aH ((fun i k=>z ((N+1)*i+k)) j) ((fun i k=>ln ((N+1)*i+k)) j) 1)) (N+1)) (by kernel_rfl) aa (fun _ _ h=>bO h) rfl)
   (lB (bc (i:=k) (F:=(ah (aH ((fun i k=>z ((N+1)*i+k)) j) ((fun i k=>ln ((N+1)*i+k)) j) 1))) Try.underlying22 (by kernel_rfl) aa aa (by omega) rfl)
   (lB (zU (F:=(aH (fun j=>z ((N+1)*j+k)) (fun j=>ln ((N+1)*j+k)) 1)) (i:=j) (KU (G:=fun w v=>Rw 2 (fun ι w v=>aB w v ((z ((N+1)*j+k)) ι) 1) (ln ((N+1)*j+k)) w v) (by kernel_rfl) aa (fun _ _ h=>bO h) rfl) rfl (fun w v h=>h))
   (lB (fY (n:=j) (F:=(aH (fun j=>z ((N+1)*j+k)) (fun j=>ln ((N+1)*j+k)) 1)) Try.underlying22 (by kernel_rfl) (slI _ _ _) (iH _ _ _) aa aa (by omega) rfl)
   (lB (bt aa (by omega) rfl (by omega) (by omega))
   aA)))))))⟩)
   (lB (tlF aa aa)
   aA)
   (fun q hq w v h=>by
    simp only [nB,List.mem_cons,List.not_mem_nil,or_false] at hq
    rcases hq with rfl
    ·exact (fun h=>h) h)) (nC (cA (lm (F:=(aw (fun k j=>z ((N+1)*j+k)) (fun k j=>ln ((N+1)*j+k)) (N+1) 1)) (i:=k) rfl (fun _ _ h=>aE.rw h))
   (lB (fY (n:=k) (F:=(aw (fun k j=>z ((N+1)*j+k)) (fun k j=>ln ((N+1)*j+k)) (N+1) 1)) Try.underlying24 (by kernel_rfl) (iG _ _ _ _) (eN _ _ _ _) aa aa (by omega) rfl)
   (lB (bt aa (by omega) rfl (by omega) (by omega))
   aA))))))⟩)
   (lB (tlF aa aa)
   aA)
   (fun q hq w v h=>by
    simp only [sI,List.mem_cons,List.not_mem_nil,or_false] at hq
    rcases hq with rfl
    ·exact (fun h=>h) h)) (lB (nJ (M:=(fun i k=>ad (mk (ln ((N+1)*i+k)) (z ((N+1)*i+k))))) (z:=(fun i k=>z ((N+1)*i+k))) (ln:=(fun i k=>ln ((N+1)*i+k))) (K:=1) (n:=(N+1)) (c:=3) (k:=1) aa rfl (fun _ _=>rfl) (by omega) (by omega) (by omega) (by omega) (fun _ _ _ _=>hE _) ((fun _ _=>Nat.le_trans (hln _) (by omega))))
   (nC (cA (aX (G:=Rw 1 (ah (aw (fun k j=>z ((N+1)*j+k)) (fun k j=>ln ((N+1)*j+k)) (N+1) 1)) (N+1)) rfl (fun _ _ h=>aE.rw h))
   (lB (nJ (M:=(fun k j=>(fun i k=>ad (mk (ln ((N+1)*i+k)) (z ((N+1)*i+k)))) j k)) (z:=(fun k j=>z ((N+1)*j+k))) (ln:=(fun k j=>ln ((N+1)*j+k))) (K:=1) (n:=(N+1)) (c:=3) (k:=1) aa rfl (fun _ _=>rfl) (by omega) (by omega) (by omega) (by omega) (fun _ _ _ _=>hE _) ((fun _ _=>Nat.le_trans (hln _) (by omega))))
   (lB (jv (F:=(aw (fun i k=>z ((N+1)*i+k)) (fun i k=>ln ((N+1)*i+k)) (N+1) 1)) (n:=(N+1)) aa rfl (iG _ _ _ _) (by omega))
   (lB (bc (i:=i) (F:=(ah (aw (fun i k=>z ((N+1)*i+k)) (fun i k=>ln ((N+1)*i+k)) (N+1) 1))) Try.underlying24 (by kernel_rfl) aa aa (by omega) rfl)
   (lB (KU (G:=Rw 1 (ah (aH ((fun i k=>z ((N+1)*i+k)) i) ((fun i k=>ln ((N+1)*i+k)) i) 1)) (N+1)) (by kernel_rfl) aa (fun _ _ h=>bO h) rfl)
   (lB (aG (F:=(ah (aH ((fun i k=>z ((N+1)*i+k)) i) ((fun i k=>ln ((N+1)*i+k)) i) 1))) Try.underlying22 aa rfl)
   (bI (counted (N+1) (fun j=>ph (nT al xl ml z ln nl nz iz N i ac xc zc mc nc ++ rS z ln N i zc nc j)) (fun _=>0) (fun j p hp=>bJ (show p<(nT al xl ml z ln nl nz iz N i ac xc zc mc nc).length from hp)) ⟨fun _=>rfl,fun w=>aE.nil 29 (aH (fun j=>ae (aK (ad (mk nc zc)) ((fun i k=>ad (mk (ln ((N+1)*i+k)) (z ((N+1)*i+k)))) i j))) (fun j=>(aK (ad (mk nc zc)) ((fun i k=>ad (mk (ln ((N+1)*i+k)) (z ((N+1)*i+k)))) i j)).length) 5) w,aW,trivial⟩ (fun j hj=>by
   skip
   exact ⟨(nA,[.frm 37,.frm 36,.frm 0]),rfl,⟨aa,aa,aW,trivial⟩,(lB (bm aa aa)
   (lB (bc (i:=i) (F:=(ah (aw (fun i k=>z ((N+1)*i+k)) (fun i k=>ln ((N+1)*i+k)) (N+1) 1))) Try.underlying24 (by kernel_rfl) aa aa (by omega) rfl)
   (lB (KU (G:=Rw 1 (ah (aH ((fun i k=>z ((N+1)*i+k)) i) ((fun i k=>ln ((N+1)*i+k)) i) 1)) (N+1)) (by kernel_rfl) aa (fun _ _ h=>bO h) rfl)
   (lB (bc (i:=j) (F:=(ah (aH ((fun i k=>z ((N+1)*i+k)) i) ((fun i k=>ln ((N+1)*i+k)) i) 1))) Try.underlying22 (by kernel_rfl) aa aa (by omega) rfl)
   (lB (KU (G:=fun w v=>Rw 2 (fun ι w v=>aB w v ((z ((N+1)*i+j)) ι) 1) (ln ((N+1)*i+j)) w v) (by kernel_rfl) aa (fun _ _ h=>bO h) rfl)
   (lB (rY (F:=(aH (fun j=>ae (aK (ad (mk nc zc)) ((fun i k=>ad (mk (ln ((N+1)*i+k)) (z ((N+1)*i+k)))) i j))) (fun j=>(aK (ad (mk nc zc)) ((fun i k=>ad (mk (ln ((N+1)*i+k)) (z ((N+1)*i+k)))) i j)).length) 5)) (i:=j) (lf (c:=3) (A:=(ad (mk nc zc))) (B:=((fun i k=>ad (mk (ln ((N+1)*i+k)) (z ((N+1)*i+k)))) i j)) (z:=zc) (n:=nc) (y:=(z ((N+1)*i+j))) (m:=(ln ((N+1)*i+j))) (k:=1) (l:=1) (K:=5) (Rw.To 2 (fun ι w v=>KI w v (ac ι) ((fun ι=>(xc ι).take 1) ι) (zc ι) 1) nc (fun _ _ _ _ h=>And.right h)) (Rw.To 2 (fun ι w v=>aB w v ((z ((N+1)*i+j)) ι) 1) (ln ((N+1)*i+j)) (fun _ _ _ _ h=>h)) (rfl) (rfl) rfl (by omega) (by have:=hln ((N+1)*i+j);omega) (by omega) (by omega) (by omega) (fun q=>(hX j).bd q)) rfl (fun w v h=>Rw.to (sz:=2) (n:=(aK (ad (mk nc zc)) ((fun i k=>ad (mk (ln ((N+1)*i+k)) (z ((N+1)*i+k)))) i j)).length) (F:=(fun ι w v=>au w v ((ae (aK (ad (mk nc zc)) ((fun i k=>ad (mk (ln ((N+1)*i+k)) (z ((N+1)*i+k)))) i j))) ι) 5)) h fun _ _ _ _ h=>au.i h))
   (lB (fY (n:=j) (F:=(aH (fun j=>ae (aK (ad (mk nc zc)) ((fun i k=>ad (mk (ln ((N+1)*i+k)) (z ((N+1)*i+k)))) i j))) (fun j=>(aK (ad (mk nc zc)) ((fun i k=>ad (mk (ln ((N+1)*i+k)) (z ((N+1)*i+k)))) i j)).length) 5)) Try.underlying22 (by kernel_rfl) (slI _ _ _) (iH _ _ _) aa aa (by omega) rfl)
   (lB (bt aa (by omega) rfl (by omega) (by omega))
   aA))))))))⟩)
   (lB (tlF aa aa)
   aA)
   (fun q hq w v h=>by
    simp only [nm,List.mem_cons,List.not_mem_nil,or_false] at hq
    rcases hq with rfl
    ·exact (fun h=>h) h)) (nC (cA (aX (G:=Rw 1 (ah (aH (fun j=>ae (aK (ad (mk nc zc)) ((fun i k=>ad (mk (ln ((N+1)*i+k)) (z ((N+1)*i+k)))) i j))) (fun j=>(aK (ad (mk nc zc)) ((fun i k=>ad (mk (ln ((N+1)*i+k)) (z ((N+1)*i+k)))) i j)).length) 5)) (N+1)) rfl (fun _ _ h=>aE.rw h))
   (lB (jC (i:=i) (n:=(N+1)) (F:=(aw (fun i k=>z ((N+1)*i+k)) (fun i k=>ln ((N+1)*i+k)) (N+1) 1)) Try.underlying24 (by kernel_rfl) aa aa (by omega) rfl rfl)
   (lB (LU (i:=i) (n:=(N+1)) (F:=(aw (fun i k=>z ((N+1)*i+k)) (fun i k=>ln ((N+1)*i+k)) (N+1) 1)) (F':=(aw (fun a b=>if a=i then ae (aK (ad (mk nc zc)) ((fun i k=>ad (mk (ln ((N+1)*i+k)) (z ((N+1)*i+k)))) i b)) else z ((N+1)*a+b)) (fun a b=>if a=i then (aK (ad (mk nc zc)) ((fun i k=>ad (mk (ln ((N+1)*i+k)) (z ((N+1)*i+k)))) i b)).length else ln ((N+1)*a+b)) (N+1) 5)) (G:=Rw 1 (ah (aH (fun j=>ae (aK (ad (mk nc zc)) ((fun i k=>ad (mk (ln ((N+1)*i+k)) (z ((N+1)*i+k)))) i j))) (fun j=>(aK (ad (mk nc zc)) ((fun i k=>ad (mk (ln ((N+1)*i+k)) (z ((N+1)*i+k)))) i j)).length) 5)) (N+1)) (.tmp 96) (.tmp 97) (by kernel_rfl) (fun _ _ h=>bO h) (eN _ _ _ _) aa aa (by omega) aa rfl (fun k' w v hk h=>dK h (fun b=>if_neg hk) (fun b=>if_neg hk) (by omega)) (fun w v h=>fS h (fun b=>if_pos rfl) (fun b=>if_pos rfl)) rfl)
   (nC (cA (aX (G:=Rw 1 (ah (aw (fun a b=>if a=i then ae (aK (ad (mk nc zc)) ((fun i k=>ad (mk (ln ((N+1)*i+k)) (z ((N+1)*i+k)))) i b)) else z ((N+1)*a+b)) (fun a b=>if a=i then (aK (ad (mk nc zc)) ((fun i k=>ad (mk (ln ((N+1)*i+k)) (z ((N+1)*i+k)))) i b)).length else ln ((N+1)*a+b)) (N+1) 5)) (N+1)) rfl (fun _ _ h=>aE.rw h))
   (lB (nJ (M:=(fun a b=>if a=i then (aK (ad (mk nc zc)) ((fun i k=>ad (mk (ln ((N+1)*i+k)) (z ((N+1)*i+k)))) i b)) else (fun i k=>ad (mk (ln ((N+1)*i+k)) (z ((N+1)*i+k)))) a b)) (z:=(fun a b=>if a=i then ae (aK (ad (mk nc zc)) ((fun i k=>ad (mk (ln ((N+1)*i+k)) (z ((N+1)*i+k)))) i b)) else z ((N+1)*a+b))) (ln:=(fun a b=>if a=i then (aK (ad (mk nc zc)) ((fun i k=>ad (mk (ln ((N+1)*i+k)) (z ((N+1)*i+k)))) i b)).length else ln ((N+1)*a+b))) (K:=5) (n:=(N+1)) (c:=6) (k:=5) aa rfl (fun a b=>by dsimp only;split;exact cX (hX b).nrm;exact rfl) (by omega) (by omega) (by omega) (by omega) (fun a b _ _=>by dsimp only;split;exact hX b;exact (hE _).more (by omega) (by omega)) (fun a b=>by dsimp only;split;exact Nat.le_trans (hX b).len (by omega);exact Nat.le_trans (hln _) (by omega)))
   (lB (Bw (z:=(ae (an (N+1) (fun i k=>ad (mk (ln ((N+1)*i+k)) (z ((N+1)*i+k))))))) (n:=(an (N+1) (fun i k=>ad (mk (ln ((N+1)*i+k)) (z ((N+1)*i+k))))).length) (y:=(ae (an (N+1) (fun k j=>(fun i k=>ad (mk (ln ((N+1)*i+k)) (z ((N+1)*i+k)))) j k)))) (m:=(an (N+1) (fun k j=>(fun i k=>ad (mk (ln ((N+1)*i+k)) (z ((N+1)*i+k)))) j k)).length) (k:=2000) (l:=2000) (Rw.To 2 (fun ι w v=>au w v ((ae (an (N+1) (fun i k=>ad (mk (ln ((N+1)*i+k)) (z ((N+1)*i+k)))))) ι) 2000) ((an (N+1) (fun i k=>ad (mk (ln ((N+1)*i+k)) (z ((N+1)*i+k))))).length) (fun _ _ _ _ h=>au.i h)) (Rw.To 2 (fun ι w v=>au w v ((ae (an (N+1) (fun k j=>(fun i k=>ad (mk (ln ((N+1)*i+k)) (z ((N+1)*i+k)))) j k))) ι) 2000) ((an (N+1) (fun k j=>(fun i k=>ad (mk (ln ((N+1)*i+k)) (z ((N+1)*i+k)))) j k)).length) (fun _ _ _ _ h=>au.i h)) (by have:=hDD.len;omega) (by have:=hDT.len;omega) (by omega) (by omega) (zO (A:=(an (N+1) (fun i k=>ad (mk (ln ((N+1)*i+k)) (z ((N+1)*i+k)))))) (cX (jy _ _)) (same_eq (jy _ _) (rQ (by omega) (fun i k=>ad (mk (ln ((N+1)*i+k)) (z ((N+1)*i+k))))))))
   (lB (lf (c:=3) (A:=(ad (mk nc zc))) (B:=(an (N+1) (fun i k=>ad (mk (ln ((N+1)*i+k)) (z ((N+1)*i+k)))))) (z:=zc) (n:=nc) (y:=(ae (an (N+1) (fun i k=>ad (mk (ln ((N+1)*i+k)) (z ((N+1)*i+k))))))) (m:=(an (N+1) (fun i k=>ad (mk (ln ((N+1)*i+k)) (z ((N+1)*i+k))))).length) (k:=1) (l:=2000) (K:=2000) (Rw.To 2 (fun ι w v=>KI w v (ac ι) ((fun ι=>(xc ι).take 1) ι) (zc ι) 1) nc (fun _ _ _ _ h=>And.right h)) (Rw.To 2 (fun ι w v=>au w v ((ae (an (N+1) (fun i k=>ad (mk (ln ((N+1)*i+k)) (z ((N+1)*i+k)))))) ι) 2000) ((an (N+1) (fun i k=>ad (mk (ln ((N+1)*i+k)) (z ((N+1)*i+k))))).length) (fun _ _ _ _ h=>au.i h)) (rfl) (cX (jy _ _)) rfl (by omega) (by have:=hDD.len;omega) (by omega) (by omega) (by omega) (fun q=>(hCD.bd q).more (by omega)))
   (lB (Bw (z:=(ae (an (N+1) (fun a b=>if a=i then (aK (ad (mk nc zc)) ((fun i k=>ad (mk (ln ((N+1)*i+k)) (z ((N+1)*i+k)))) i b)) else (fun i k=>ad (mk (ln ((N+1)*i+k)) (z ((N+1)*i+k)))) a b)))) (n:=(an (N+1) (fun a b=>if a=i then (aK (ad (mk nc zc)) ((fun i k=>ad (mk (ln ((N+1)*i+k)) (z ((N+1)*i+k)))) i b)) else (fun i k=>ad (mk (ln ((N+1)*i+k)) (z ((N+1)*i+k)))) a b)).length) (y:=(ae (aK (ad (mk nc zc)) (an (N+1) (fun i k=>ad (mk (ln ((N+1)*i+k)) (z ((N+1)*i+k)))))))) (m:=(aK (ad (mk nc zc)) (an (N+1) (fun i k=>ad (mk (ln ((N+1)*i+k)) (z ((N+1)*i+k)))))).length) (k:=2000) (l:=2000) (Rw.To 2 (fun ι w v=>au w v ((ae (an (N+1) (fun a b=>if a=i then (aK (ad (mk nc zc)) ((fun i k=>ad (mk (ln ((N+1)*i+k)) (z ((N+1)*i+k)))) i b)) else (fun i k=>ad (mk (ln ((N+1)*i+k)) (z ((N+1)*i+k)))) a b))) ι) 2000) ((an (N+1) (fun a b=>if a=i then (aK (ad (mk nc zc)) ((fun i k=>ad (mk (ln ((N+1)*i+k)) (z ((N+1)*i+k)))) i b)) else (fun i k=>ad (mk (ln ((N+1)*i+k)) (z ((N+1)*i+k)))) a b)).length) (fun _ _ _ _ h=>au.i h)) (Rw.To 2 (fun ι w v=>au w v ((ae (aK (ad (mk nc zc)) (an (N+1) (fun i k=>ad (mk (ln ((N+1)*i+k)) (z ((N+1)*i+k))))))) ι) 2000) ((aK (ad (mk nc zc)) (an (N+1) (fun i k=>ad (mk (ln ((N+1)*i+k)) (z ((N+1)*i+k)))))).length) (fun _ _ _ _ h=>au.i h)) (by have:=hDS.len;omega) (by have:=hCD.len;omega) (by omega) (by omega) (zO (A:=(aK (ad (mk nc zc)) (an (N+1) (fun i k=>ad (mk (ln ((N+1)*i+k)) (z ((N+1)*i+k))))))) (same_eq (jy _ _) (rR (by omega) hi (ad (mk nc zc)) (fun i k=>ad (mk (ln ((N+1)*i+k)) (z ((N+1)*i+k)))) hCD.nrm)) (cX hCD.nrm)))
   (lB (ei)
   aA)))))))))))))))))))))))))))
  (aJ [.fact 0 (.one (.s)),.fact 1 (.one (.i)),.fact 2 (.one (.i)),.fact 3 (.one (.s))] ⟨Rw.Is 1 (bF al xl ml) nl,fun _ _ h=>h▸aQ _,fun _ _ h=>h▸aQ _,Rw.Is 2 (fun ι w v=>KR w v (ac ι) (xc ι)) mc,trivial⟩) (fun _ _ _ h=>h)
theorem walk {nl:Nat}{ml:Nat->Nat}{al:Nat->Nat->Bool}{xl:Nat->Nat->List Nat}{w:World}{vl:Value} (hnl:nl<=9223372036854775807∧∀i,i<nl->ml i<=9223372036854775807) (hll:Rw 1 (bF al xl ml) nl w vl) (nz:Int) (_ : -9223372036854775808<=nz) (_:nz<=9223372036854775807) (iz:Int) (_ : -9223372036854775808<=iz) (_:iz<=9223372036854775807){mc:Nat}{ac:Nat->Bool}{xc:Nat->List Nat}{vc:Value} (hmc:mc<=9223372036854775807) (hlc:Rw 2 (fun i w v=>KR w v (ac i) (xc i)) mc w vc):Calls Try.prog 6 #[vl,.int .i64 nz,.int .i64 iz,vc] w (lE w true):=by
 obtain ⟨gI,z,ln,dO,hml,hz,hN,hN0,hln,hE⟩:=np hnl hll
 obtain ⟨N,bw⟩:∃N,bX nz 4=N:=⟨_,rfl⟩
 obtain ⟨i,hiw⟩:∃i,bX iz (N+1)=i:=⟨_,rfl⟩
 exact ek (path (nc:=min mc 2) hnl.1 hml hz hN hN0 hln hE hmc (fun _=>rfl) rfl (by omega) (jK hlc) bw (bw▸jR _ (by omega)) hiw (hiw▸jR _ (by omega))) (vs:=[vl,.int .i64 nz,.int .i64 iz,vc]) ⟨eg dO,fun _ _=>rfl,fun _ _=>rfl,lq hlc,trivial⟩
theorem lifted (os:Os) (started:os.Started) (H:Type) (enc:TypeId×Value->H) :
  ReturnsInHanded {} Try.checked os 6 .any (Rows.detTurnedSpec.pre6 enc Try.prog Try.f6 Rows.detTurnedRow.domain false) (Rows.detTurnedSpec.post enc Try.prog Try.f6 false true false false):=by
 refine returnsInHanded_of_change (C:=Try.checked) Try.own started (by kernel_rfl) Try.func6
  (ChangeSpec.witness6 (enc:=enc) (C:=Try.checked) false ⟨#[],#[.slice none 0 0,.int .i64 0,.int .i64 0,.slice none 0 0],[]⟩ 8 (by kernel_rfl) (by kernel_rfl) (by kernel_rfl) (by kernel_rfl)) ?_
 intro W base args ds gs before hval0 hW _ _
 have hval:∀(j:Nat) t v,Try.f6.params[j]?=some t->args[j]?=some v->Value.okWide Try.prog W .any base t v:=hval0
 obtain ⟨p,q,hA0,hV,rfl,_,_⟩:=id hW
 have hA:DataW.TrodAll enc Try.prog W 0 (fun _=>true) true Try.f6.params.toList args.toList ds p:=hA0
 rw [Try.params6] at hA hval
 obtain ⟨v0,sG,d0,ds0,p0,q0,hargs,rfl,rfl,h0,r0⟩:=trodAll_cons hA
 obtain ⟨v1,vs1,d1,ds1,p1,q1,rfl,rfl,rfl,h1,r1⟩:=trodAll_cons r0
 obtain ⟨v2,vs2,d2,sH,p2,q2,rfl,rfl,rfl,h2,r2⟩:=trodAll_cons r1
 obtain ⟨v3,vs3,d3,ds3,p3,q3,rfl,rfl,rfl,h3,r3⟩:=trodAll_cons r2
 obtain ⟨rfl,rfl,rfl⟩:=trodAll_nil r3
 obtain rfl:args = #[v0,v1,v2,v3]:=by cases args;simp_all
 obtain ⟨n0,m0,a0,xs0,l0,s0⟩:=no h0 (hval 0 22 v0 rfl rfl)
 obtain ⟨n1,rfl,rfl,rfl,f1⟩:=open_int Try.underlying3 (hval 1 3 v1 rfl rfl) h1
 obtain ⟨n2,rfl,rfl,rfl,f2⟩:=open_int Try.underlying3 (hval 2 3 v2 rfl rfl) h2
 obtain ⟨n3,a3,xs3,l3,s3⟩:=nj h3 (hval 3 29 v3 rfl rfl)
 refine (walk l0 s0 n1 (gK f1) (gL f1) n2 (gK f2) (gL f2) l3 s3).mono fun e W' ⟨he,hg⟩=>?_
 subst he
 refine ⟨_,rfl,nS Try.laidOut rfl (by kernel_rfl) Try.underlying4 ?_ ?_ hW hg⟩
 ·rw [Try.params6];decide +kernel
 ·rw [Try.params6]
  intro ds h
  match ds,h with
  | [_,_,_,_],_=>rfl
theorem holds:Rows.DetTurnedSaid:=
 OpenClaim.holds_of_wide 6 Try.f6 rfl rfl rfl rfl rfl rfl rfl ⟨rfl,rfl,rfl,rfl,rfl⟩ rfl rfl rfl rfl rfl (by kernel_rfl) Try.func6 (by kernel_rfl)
  (of_decide_eq_true (by kernel_rfl)) (by unfold Func.isWrapper;first | (rw [if_pos (by decide +kernel)];kernel_rfl) | (rw [if_neg (by decide +kernel)];exact ⟨rfl,rfl⟩))
  (fun os started H enc _=>lifted os started H enc)
end Go.Proofs.Ytomamliepbhegaa.dturned
