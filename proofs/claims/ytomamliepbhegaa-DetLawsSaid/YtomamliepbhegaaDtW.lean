/- The reference's minors and determinants. Layer 13's rows of polynomials, the program's and the reference's, made at once. -/
import Derived.Test.YtomamliepbhegaaDtP
import Derived.Test.YtomamliepbhegaaCatN
import Derived.Test.YtomamliepbhegaaDivW
import Derived.Test.YtomamliepbhegaaPolI
namespace Go.Proofs.Ytomamliepbhegaa.Sym
open Go.RowKit
def bp (L:Nat->List Int) (K k:Nat) (w:World) (v:Value):Prop:=Rw 4 (fun ι w v=>am w v ((ae (L k) ι:Int):Rat) K) (L k).length w v
def aP (M:Nat->Nat->List Int) (m K i:Nat) (w:World) (v:Value):Prop:=Rw 1 (ah (bp (M i) K)) m w v
theorem lk (L:Nat->List Int) (K k:Nat) (w:World) (s:Value) (h:bp L K k w s):∃p n c,s = .slice p n c:=bO h
theorem slM (M:Nat->Nat->List Int) (m K i:Nat) (w:World) (s:Value) (h:aP M m K i w s):∃p n c,s = .slice p n c:=bO h
theorem ll (L:Nat->List Int) (K k:Nat):cg (bp L K k):=rE (z0:=.bool true) (fun _ _ _ _ g h=>am.kp h g) fun i w l h hl=>by
 obtain ⟨p,n,c,b,p',n',c',b',e,-⟩:=h
 obtain rfl:l = [.slice p n c,.bool b,.slice p' n' c',.bool b']:=by simpa using e
 exact ⟨_,rfl,fun h=>by (cases h),fun _ _ h=>by cases h⟩
theorem rF (M:Nat->Nat->List Int) (m K i:Nat):cg (aP M m K i):=rG (lk _ _) (ll _ _)
theorem zU {P:Program}{m:Op->Option (List Operand)}{Φ:PH}{f x y i:Nat}{ls:List Arg}{F:PH} (h:aj Φ P ⟨f,ls,[oS x],.quiet m⟩) (hy:Φ y=ah F i) (hF:∀w v,Φ x w v->F i w v):aj Φ P ⟨f,ls,[⟨.one .s,[(0,0,x),(0,2,y)]⟩],.quiet m⟩:=fun X w a o xs hX hm ha=>by
 obtain ⟨u,w',h1,h2,⟨h3,h4⟩,h5⟩:=h X w a o xs hX hm ha
 refine ⟨u,w',h1,h2,⟨h3,fun q hq w1 hw=>?_⟩,h5⟩
 simp only [List.mem_cons,List.not_mem_nil,or_false] at hq
 rcases hq with rfl | rfl
 ·exact h4 _ (List.mem_singleton.2 rfl) w1 hw
 ·obtain ⟨⟨p,n,c,rfl⟩,-⟩:=h3
  show Φ y w1 _
  rw [hy]
  exact ⟨_,rfl,hF _ _ (h4 (0,0,x) (List.mem_singleton.2 rfl) w1 hw)⟩
theorem lm {Φ:PH}{x q i:Nat}{F:PH} (hx:Φ x=ah F i) (h:∀w v,Φ q w v->F i w v) (X:Nat->Prop) (w:World) (v:Value) (hv:(Arg.parts (.agg [.s]) [(0,1,q)]).ok Φ X w v):(Arg.fact x).ok Φ X w v:=fun w1 hw=>by
 rw [hx]
 obtain ⟨⟨vs,rfl,h1⟩,h2⟩:=hv
 match vs,h1 with
 | [s],_=>exact ⟨s,rfl,h _ _ (h2 (0,1,q) (List.mem_singleton.2 rfl) w1 hw)⟩
section
variable {Φ:PH}{p q r x n m K i k:Nat}{M:Nat->Nat->List Int}
end
theorem lh {c k:Nat} (hc:c<=100) (hk:k<=100):∀n,n<=4->bD c k n<=1+210*n
 | 0,_=>Nat.le_refl 1
 | n+1,h=>by
  have:=lh hc hk n (by omega)
  rw [bD]
  omega
def aH (z:Nat->Nat->Int) (ln:Nat->Nat) (K k:Nat) (w:World) (v:Value):Prop:=Rw 2 (If (z k) K) (ln k) w v
def aw (z:Nat->Nat->Nat->Int) (ln:Nat->Nat->Nat) (m K i:Nat) (w:World) (v:Value):Prop:=Rw 1 (ah (aH (z i) (ln i) K)) m w v
def bF (al:Nat->Nat->Bool) (xl:Nat->Nat->List Nat) (ml:Nat->Nat) (i:Nat) (w:World) (v:Value):Prop:=∃s,v = .agg #[s]∧Rw 2 (fun j w v=>KR w v (al i j) (xl i j)) (ml i) w s
theorem slI (z:Nat->Nat->Int) (ln:Nat->Nat) (K k:Nat) (w:World) (s:Value) (h:aH z ln K k w s):∃p n c,s = .slice p n c:=bO h
theorem iG (z:Nat->Nat->Nat->Int) (ln:Nat->Nat->Nat) (m K i:Nat) (w:World) (s:Value) (h:aw z ln m K i w s):∃p n c,s = .slice p n c:=bO h
theorem iH (z:Nat->Nat->Int) (ln:Nat->Nat) (K k:Nat):cg (aH z ln K k):=rE (z0:=.slice none 0 0) (fun _ _ _ _ g h=>aB.kp h g) fun i w l h hl=>by
 obtain ⟨b,s,X,e,-⟩:=h
 obtain rfl:l = [.bool b,s]:=by simpa using e
 exact ⟨_,rfl,fun h=>by (cases h),fun _ _ h=>by cases h⟩
theorem eN (z:Nat->Nat->Nat->Int) (ln:Nat->Nat->Nat) (m K i:Nat):cg (aw z ln m K i):=rG (slI _ _ _) (iH _ _ _)
theorem rY {P:Program}{Φ:PH}{f x y i:Nat}{ls:List Arg}{F:PH} (h:aj Φ P ⟨f,ls,[oS x],false⟩) (hy:Φ y=ah F i) (hF:∀w v,Φ x w v->F i w v):aj Φ P ⟨f,ls,[⟨.one .s,[(0,0,x),(0,2,y)]⟩],false⟩:=fun X w vs hX ha=>(h X w vs hX ha).mono fun e w' ⟨g,us,he,ho⟩=>⟨g,us,he,by
 match us,ho with
 | [u],⟨⟨h3,h4⟩,h5⟩=>
  refine ⟨⟨h3,fun q hq w1 hw=>?_⟩,h5⟩
  simp only [List.mem_cons,List.not_mem_nil,or_false] at hq
  rcases hq with rfl | rfl
  ·exact h4 _ (List.mem_singleton.2 rfl) w1 hw
  ·obtain ⟨⟨p,n,c,rfl⟩,-⟩:=h3
   show Φ y w1 _
   rw [hy]
   exact ⟨_,rfl,hF _ _ (h4 (0,0,x) (List.mem_singleton.2 rfl) w1 hw)⟩⟩
theorem Ai {Φ:PH}{x:Nat}{a:Atom}{G:WP} (hx:Φ x=G) (h:∀w,G w (a.ev bL)) (X:Nat->Prop) (w:World) (v:Value) (hv:(Arg.parts (.one (.lit a)) []).ok Φ X w v):(Arg.fact x).ok Φ X w v:=fun w1 _=>by
 rw [hx]
 obtain ⟨h1,-⟩:=hv
 obtain rfl:v=a.ev bL:=h1.1
 exact h w1
theorem Aj {Φ:PH}{x i:Nat}{a:Atom}{F:PH} (hx:Φ x=ah F i) (h:∀w,F i w (a.ev bL)) (X:Nat->Prop) (w:World) (v:Value) (hv:(Arg.parts (.agg [.lit a]) []).ok Φ X w v):(Arg.fact x).ok Φ X w v:=fun w1 _=>by
 rw [hx]
 obtain ⟨⟨vs,rfl,h1⟩,-⟩:=hv
 match vs,h1 with
 | [s],h1=>exact ⟨s,rfl,by rw [show s=a.ev bL from h1.1];exact h w1⟩
section
variable {Φ:PH}{p x n0 n:Nat}{z:Nat->Int}
theorem Ak {a:Nat->Bool}{xs:Nat->List Nat}{Ki mi:Int} (K m:Nat) (hKi:(K:Int)=Ki) (hmi:(m:Int)=mi) (hp:∀w v,Φ p w v->Rw 2 (fun i w v=>KR w v (a i) (xs i)) n0 w v) (hx:Φ x=fun w v=>Rw 2 (fun i w v=>KI w v (a i) ((xs i).take m) (z i) m) n w v) (hn:n0<=9223372036854775807) (hKm:K<=1000000) (hz:∀j,sg (a j) (Proofs.Ytomamliepbhegaa.val 4294967296 ((xs j).take m))=z j) (hN:min n0 K=n) :
  aj Φ Try.prog ⟨17,[.fact p,.lit (.ci .i64 Ki),.lit (.ci .i64 mi)],[oS x],false⟩:=
 aT (Am (Φ:=ph [fun w v=>Rw 2 (fun i w v=>KR w v (a i) (xs i)) n0 w v,Ni (K:Int),Ni (m:Int),fun w v=>Rw 2 (fun i w v=>KI w v (a i) ((xs i).take m) (z i) m) n w v]) (p:=0) (q:=1) (r:=2) (x:=3) K m (fun _ _ h=>h) (fun _ _ h=>h) (fun _ _ h=>h) rfl hn hKm hz hN) ⟨hp,fun _=>by rw [<- hKi];rfl,fun _=>by rw [<- hmi];rfl,trivial⟩ ⟨⟨rfl,⟨rfl,rfl,fun _ _ h=>hx▸h⟩,trivial⟩,trivial⟩
end
def jL (al:Nat->Nat->Bool) (xl:Nat->Nat->List Nat) (ml:Nat->Nat) (z:Nat->Nat->Int) (ln:Nat->Nat) (nl n m:Nat):List WP:=[Rw 1 (bF al xl ml) nl,Nz n,Nz m,aE 22 (aw (fun i k=>z (m*i+k)) (fun i k=>ln (m*i+k)) m 1) n,aE 42 (aP (fun i k=>(ad (mk (ln (m*i+k)) (z (m*i+k))))) m (1+2+2)) n]
def An (al:Nat->Nat->Bool) (xl:Nat->Nat->List Nat) (ml:Nat->Nat) (z:Nat->Nat->Int) (ln:Nat->Nat) (nl m:Nat) (i k:Nat):List WP:=[Nz k,aE 29 (aH (fun k=>z (m*i+k)) (fun k=>ln (m*i+k)) 1) k,fun _ _=>True,aE 36 (bp (fun k=>(ad (mk (ln (m*i+k)) (z (m*i+k))))) (1+2+2)) k,fun _ _=>True,Ni ((m*i:Nat):Int),Ni ((m*i+k:Nat):Int),Nz nl,Ni ((m*i:Nat):Int),Ni ((m*i+k:Nat):Int),Ptr 1 (bF al xl ml (m*i+k)),fun w v=>Rw 2 (fun ι w v=>KR w v (al (m*i+k) ι) (xl (m*i+k) ι)) (ml (m*i+k)) w v,fun w v=>Rw 2 (fun ι w v=>KI w v ((al (m*i+k)) ι) ((fun ι=>(xl (m*i+k) ι).take 1) ι) ((z (m*i+k)) ι) 1) (ln (m*i+k)) w v,ah (aH (fun k=>z (m*i+k)) (fun k=>ln (m*i+k)) 1) k,aE 29 (aH (fun k=>z (m*i+k)) (fun k=>ln (m*i+k)) 1) (k+1),fun w v=>Rw 4 (fun ι w v=>am w v ((((ae (ad (mk (ln (m*i+k)) (z (m*i+k))))) ι:Int):Rat)) (1+2+2)) ((ad (mk (ln (m*i+k)) (z (m*i+k)))).length) w v,ah (bp (fun k=>(ad (mk (ln (m*i+k)) (z (m*i+k))))) (1+2+2)) k,aE 36 (bp (fun k=>(ad (mk (ln (m*i+k)) (z (m*i+k))))) (1+2+2)) (k+1),Nz (k+1),Ni ((m*i:Nat):Int),Ni ((m*i+k:Nat):Int),Nz nl,fun w v=>Rw 2 (fun ι w v=>aB w v (z (m*i+k) ι) 1) (ln (m*i+k)) w v,ah (aH (fun k=>z (m*i+k)) (fun k=>ln (m*i+k)) 1) k,aE 29 (aH (fun k=>z (m*i+k)) (fun k=>ln (m*i+k)) 1) (k+1),fun w v=>Rw 4 (fun ι w v=>am w v ((((ae (ad (mk (ln (m*i+k)) (z (m*i+k))))) ι:Int):Rat)) (1+2+2)) ((ad (mk (ln (m*i+k)) (z (m*i+k)))).length) w v,ah (bp (fun k=>(ad (mk (ln (m*i+k)) (z (m*i+k))))) (1+2+2)) k,aE 36 (bp (fun k=>(ad (mk (ln (m*i+k)) (z (m*i+k))))) (1+2+2)) (k+1),Nz (k+1)]
def rZ:bf:=⟨[0,1,2,6,7,8,9,10,15,16,17],[(.slot 13,.i),(.slot 11,.s),(.slot 12,.s)],[(.one 0,17),(.one 1,.bT [2] 18),(.one 1,.lo 2),(.one 2,.bT [3] 20),(.one 2,.lo 3)],[.closed (.one (.ci .i64 0)),.closed (.one (.nl)),.frm 0,.closed (.one (.nl)),.frm 0],17,[(18,10),(20,11)]⟩
def My:List Step:=[bQ [.fact 17,.fact 2] oT (ai .lss),
   bQ [.fact 2,.fact 5] [oN 22] (ai .mul),
   bQ [.fact 22,.fact 17] [oN 23] (ai .add),
   bQ [.fact 0] [oN 24] (aD 22),
   bQ [.fact 23,.fact 24] oT (ai .lss),
   bQ [.fact 2,.fact 5] [oN 25] (ai .mul),
   bQ [.fact 25,.fact 17] [oN 26] (ai .add),
   bQ [.fact 0,.fact 26] [oP 27] (aI 22),
   bQ [.fact 27] [oS 28] (aL 29),
   .base ⟨17,[.fact 28,.lit (.ci .i64 3),.lit (.ci .i64 1)],[oS 29],false⟩,
   .derive (.agg [.s 34 0]) (.agg [.s]) [(0,1,29)] 30,
   .base ⟨0,[.fact 18,.row 1 [30]],[oS 31],.loose [] 2 0 (cf 22 22)⟩,
   .base ⟨23,[.fact 29],[⟨.one (.s),[(0,0,32),(0,2,33)]⟩],false⟩,
   .base ⟨0,[.fact 20,.row 1 [33]],[oS 34],.loose [] 3 0 (cf 42 42)⟩,
   bQ [.fact 17,.lit (.ci .i64 1)] [oN 35] (ai .add)]
def Mz:List Step:=[bQ [.fact 17,.fact 2] oT (ai .lss),
   bQ [.fact 2,.fact 5] [oN 36] (ai .mul),
   bQ [.fact 36,.fact 17] [oN 37] (ai .add),
   bQ [.fact 0] [oN 38] (aD 22),
   bQ [.fact 37,.fact 38] oF (ai .lss),
   .derive (.one (.nl)) (.one (.lit (.nl))) [] 39,
   .derive (.agg [.nl]) (.agg [.lit (.nl)]) [] 40,
   .base ⟨0,[.fact 18,.row 1 [40]],[oS 41],.loose [] 2 0 (cf 22 22)⟩,
   .base ⟨23,[.fact 39],[⟨.one (.s),[(0,0,42),(0,2,43)]⟩],false⟩,
   .base ⟨0,[.fact 20,.row 1 [43]],[oS 44],.loose [] 3 0 (cf 42 42)⟩,
   bQ [.fact 17,.lit (.ci .i64 1)] [oN 45] (ai .add)]
def Ao:List Step:=[bQ [.fact 17,.fact 2] oF (ai .lss)]
def nE (z:Nat->Nat->Int) (ln:Nat->Nat) (m:Nat) (i:Nat):List WP:=[Nz i,aE 22 (aw (fun i k=>z (m*i+k)) (fun i k=>ln (m*i+k)) m 1) i,fun _ _=>True,aE 42 (aP (fun i k=>(ad (mk (ln (m*i+k)) (z (m*i+k))))) m (1+2+2)) i,fun _ _=>True,aE 29 (aH (fun k=>z (m*i+k)) (fun k=>ln (m*i+k)) 1) m,aE 36 (bp (fun k=>(ad (mk (ln (m*i+k)) (z (m*i+k))))) (1+2+2)) m,ah (aw (fun i k=>z (m*i+k)) (fun i k=>ln (m*i+k)) m 1) i,aE 22 (aw (fun i k=>z (m*i+k)) (fun i k=>ln (m*i+k)) m 1) (i+1),ah (aP (fun i k=>(ad (mk (ln (m*i+k)) (z (m*i+k))))) m (1+2+2)) i,aE 42 (aP (fun i k=>(ad (mk (ln (m*i+k)) (z (m*i+k))))) m (1+2+2)) (i+1),Nz (i+1)]
def MA:bf:=⟨[0,1,2,6,7],[(.slot 10,.i),(.slot 8,.s),(.slot 9,.s)],[(.one 0,5),(.one 1,.bT [1] 6),(.one 1,.lo 1),(.one 2,.bT [4] 8),(.one 2,.lo 4)],[.closed (.one (.ci .i64 0)),.closed (.one (.nl)),.frm 0,.closed (.one (.nl)),.frm 0],5,[(6,3),(8,4)]⟩
def MB:List Step:=[bQ [.fact 5,.fact 1] oT (ai .lss),
   .loop rZ [(My,[.frm 35,.frm 31,.frm 0,.frm 34,.frm 0]),(Mz,[.frm 45,.frm 41,.frm 0,.frm 44,.frm 0])] Ao,
   .shut 2,
   .derive (.agg [.s 13 1]) (.agg [.s]) [(0,1,10)] 12,
   .shut 3,
   .derive (.agg [.s 13 2]) (.agg [.s]) [(0,1,11)] 14,
   .base ⟨0,[.fact 6,.row 1 [12]],[oS 13],.loose [] 1 0 (cf 24 24)⟩,
   .base ⟨0,[.fact 8,.row 1 [14]],[oS 15],.loose [] 4 0 (cf 25 25)⟩,
   bQ [.fact 5,.lit (.ci .i64 1)] [oN 16] (ai .add)]
def Ap:List Step:=[bQ [.fact 5,.fact 1] oF (ai .lss)]
def Aq:List Step:=[.loop MA [(MB,[.frm 16,.frm 13,.frm 0,.frm 15,.frm 0])] Ap]
def Ar:List Out:=[oS 0,oN 1,oN 2]
set_option maxRecDepth 100000 in
theorem As {al:Nat->Nat->Bool}{xl:Nat->Nat->List Nat}{ml:Nat->Nat}{z:Nat->Nat->Int}{ln:Nat->Nat}{nl n m:Nat} (hn:n<=6) (hm:m<=6) (hnl:nl<=9223372036854775807) (hml:∀q,ml q<=9223372036854775807) (hz:∀q j,sg (al q j) (Proofs.Ytomamliepbhegaa.val 4294967296 ((xl q j).take 1))=z q j) (hN:∀q,q<nl->min (ml q) 3=ln q) (hN0:∀q,¬q<nl->ln q=0) (hln:∀q,ln q<=1000000):aj (ph (jL al xl ml z ln nl n m)) Try.prog ⟨9,[.fact 0,.fact 1,.fact 2],[oS 3,oS 4],true⟩:=by
 skip
 exact aR Ar [oS 3,oS 4] Aq Try.func9 (by kernel_rfl)
  (bI (counted n (fun i=>ph (jL al xl ml z ln nl n m ++ nE z ln m i)) (fun _=>0) (fun i p hp=>bJ (show p<(jL al xl ml z ln nl n m).length from hp)) ⟨fun _=>rfl,fun w=>aE.nil 22 (aw (fun i k=>z (m*i+k)) (fun i k=>ln (m*i+k)) m 1) w,aW,fun w=>aE.nil 42 (aP (fun i k=>(ad (mk (ln (m*i+k)) (z (m*i+k))))) m (1+2+2)) w,aW,trivial⟩ (fun i hi=>by
   skip
   exact ⟨(MB,[.frm 16,.frm 13,.frm 0,.frm 15,.frm 0]),rfl,⟨aa,aa,aW,aa,aW,trivial⟩,(lB (bm aa aa)
   (bI (counted m (fun k=>ph ((jL al xl ml z ln nl n m ++ nE z ln m i) ++ An al xl ml z ln nl m i k)) (fun k=>if m*i+k<nl then 0 else 1) (fun k p hp=>bJ (show p<(jL al xl ml z ln nl n m ++ nE z ln m i).length from hp)) ⟨fun _=>rfl,fun w=>aE.nil 29 (aH (fun k=>z (m*i+k)) (fun k=>ln (m*i+k)) 1) w,aW,fun w=>aE.nil 36 (bp (fun k=>(ad (mk (ln (m*i+k)) (z (m*i+k))))) (1+2+2)) w,aW,trivial⟩ (fun k hk=>by
   have hmi:m*i<=6*6:=Nat.mul_le_mul hm (by omega)
   by_cases hck:m*i+k<nl
   ·have hcase:=hck
    exact ⟨(My,[.frm 35,.frm 31,.frm 0,.frm 34,.frm 0]),by rw [if_pos hck];rfl,⟨aa,aa,aW,aa,aW,trivial⟩,(lB (bm aa aa)
   (lB (nF aa aa ((Int.natCast_mul m i).symm) rfl (by omega) (by omega))
   (lB (cS aa aa (by omega) rfl (by omega) (by omega))
   (lB (aG (F:=(bF al xl ml)) Try.underlying22 aa rfl)
   (lB (bm aa aa)
   (lB (nF aa aa ((Int.natCast_mul m i).symm) rfl (by omega) (by omega))
   (lB (cS aa aa (by omega) rfl (by omega) (by omega))
   (lB (bc (i:=(m*i+k)) (F:=(bF al xl ml)) Try.underlying22 (by kernel_rfl) aa aa (by omega) rfl)
   (lB (KU (G:=fun w v=>Rw 2 (fun ι w v=>KR w v (al (m*i+k) ι) (xl (m*i+k) ι)) (ml (m*i+k)) w v) (by kernel_rfl) aa (fun _ _ h=>bO h) rfl)
   (lB (Ak (a:=al (m*i+k)) (xs:=xl (m*i+k)) (z:=z (m*i+k)) (n:=ln (m*i+k)) 3 1 rfl rfl aa rfl (hml _) (by omega) (hz _) (hN _ hcase))
   (cA (lm (F:=(aH (fun k=>z (m*i+k)) (fun k=>ln (m*i+k)) 1)) (i:=k) rfl (fun _ _ h=>Rw.to (sz:=2) (n:=ln (m*i+k)) (F:=fun ι w v=>KI w v (al (m*i+k) ι) ((xl (m*i+k) ι).take 1) (z (m*i+k) ι) 1) h fun i w v _ h=>h.2))
   (lB (fY (n:=k) (F:=(aH (fun k=>z (m*i+k)) (fun k=>ln (m*i+k)) 1)) Try.underlying22 (by kernel_rfl) (slI _ _ _) (iH _ _ _) aa aa (by omega) rfl)
   (lB (rY (F:=(bp (fun k=>(ad (mk (ln (m*i+k)) (z (m*i+k))))) (1+2+2))) (i:=k) (MC (z:=z (m*i+k)) (n:=ln (m*i+k)) (k:=1) (L:=(ad (mk (ln (m*i+k)) (z (m*i+k))))) (Rw.To 2 (fun ι w v=>KI w v ((al (m*i+k)) ι) ((fun ι=>(xl (m*i+k) ι).take 1) ι) ((z (m*i+k)) ι) 1) (ln (m*i+k)) (fun _ _ _ _ h=>And.right h)) rfl (hln _) (by omega) rfl) rfl aa)
   (lB (fY (n:=k) (F:=(bp (fun k=>(ad (mk (ln (m*i+k)) (z (m*i+k))))) (1+2+2))) Try.underlying42 (by kernel_rfl) (lk _ _) (ll _ _) aa aa (by omega) rfl)
   (lB (bt aa (by omega) rfl (by omega) (by omega))
   aA)))))))))))))))⟩
   ·have hcase:=hck
    exact ⟨(Mz,[.frm 45,.frm 41,.frm 0,.frm 44,.frm 0]),by rw [if_neg hck];rfl,⟨aa,aa,aW,aa,aW,trivial⟩,(lB (bm aa aa)
   (lB (nF aa aa ((Int.natCast_mul m i).symm) rfl (by omega) (by omega))
   (lB (cS aa aa (by omega) rfl (by omega) (by omega))
   (lB (aG (F:=(bF al xl ml)) Try.underlying22 aa rfl)
   (lB (tlF aa aa)
   (cA (Ai (G:=fun w v=>Rw 2 (fun ι w v=>aB w v (z (m*i+k) ι) 1) (ln (m*i+k)) w v) rfl (fun w=>by rw [hN0 _ hcase];exact Rw.nil 2 _ w))
   (cA (Aj (F:=(aH (fun k=>z (m*i+k)) (fun k=>ln (m*i+k)) 1)) (i:=k) rfl (fun w=>by show Rw 2 _ (ln (m*i+k)) w _;rw [hN0 _ hcase];exact Rw.nil 2 _ w))
   (lB (fY (n:=k) (F:=(aH (fun k=>z (m*i+k)) (fun k=>ln (m*i+k)) 1)) Try.underlying22 (by kernel_rfl) (slI _ _ _) (iH _ _ _) aa aa (by omega) rfl)
   (lB (rY (F:=(bp (fun k=>(ad (mk (ln (m*i+k)) (z (m*i+k))))) (1+2+2))) (i:=k) (MC (z:=z (m*i+k)) (n:=ln (m*i+k)) (k:=1) (L:=(ad (mk (ln (m*i+k)) (z (m*i+k))))) (Rw.To 2 (fun ι w v=>aB w v ((z (m*i+k)) ι) 1) (ln (m*i+k)) (fun _ _ _ _ h=>h)) rfl (hln _) (by omega) rfl) rfl aa)
   (lB (fY (n:=k) (F:=(bp (fun k=>(ad (mk (ln (m*i+k)) (z (m*i+k))))) (1+2+2))) Try.underlying42 (by kernel_rfl) (lk _ _) (ll _ _) aa aa (by omega) rfl)
   (lB (bt aa (by omega) rfl (by omega) (by omega))
   aA)))))))))))⟩
)
   (lB (tlF aa aa)
   aA)
   (fun q hq w v h=>by
    simp only [rZ,List.mem_cons,List.not_mem_nil,or_false] at hq
    rcases hq with rfl | rfl
    ·exact (fun h=>h) h
    ·exact (fun h=>h) h)) (nC (cA (lm (F:=(aw (fun i k=>z (m*i+k)) (fun i k=>ln (m*i+k)) m 1)) (i:=i) rfl (fun _ _ h=>aE.rw h))
   (nC (cA (lm (F:=(aP (fun i k=>(ad (mk (ln (m*i+k)) (z (m*i+k))))) m (1+2+2))) (i:=i) rfl (fun _ _ h=>aE.rw h))
   (lB (fY (n:=i) (F:=(aw (fun i k=>z (m*i+k)) (fun i k=>ln (m*i+k)) m 1)) Try.underlying24 (by kernel_rfl) (iG _ _ _ _) (eN _ _ _ _) aa aa (by omega) rfl)
   (lB (fY (n:=i) (F:=(aP (fun i k=>(ad (mk (ln (m*i+k)) (z (m*i+k))))) m (1+2+2))) Try.underlying25 (by kernel_rfl) (slM _ _ _) (rF _ _ _) aa aa (by omega) rfl)
   (lB (bt aa (by omega) rfl (by omega) (by omega))
   aA)))))))))⟩)
   (lB (tlF aa aa)
   aA)
   (fun q hq w v h=>by
    simp only [MA,List.mem_cons,List.not_mem_nil,or_false] at hq
    rcases hq with rfl | rfl
    ·exact (fun h=>h) h
    ·exact (fun h=>h) h)) aA)
  (aJ [.fact 0 (.one (.s)),.fact 1 (.one (.i)),.fact 2 (.one (.i))] ⟨Rw.Is 1 (bF al xl ml) nl,fun _ _ h=>h▸aQ _,fun _ _ h=>h▸aQ _,trivial⟩) (fun _ _ _ h=>h)
section
variable {Φ:PH}{p q r x y nl n m:Nat}{al:Nat->Nat->Bool}{xl:Nat->Nat->List Nat}{ml ln:Nat->Nat}{z:Nat->Nat->Int}
theorem eh (hp:∀w v,Φ p w v->Rw 1 (bF al xl ml) nl w v) (hq:∀w v,Φ q w v->v = .int .i64 (n:Int)) (hr:∀w v,Φ r w v->v = .int .i64 (m:Int)) (hx:Φ x=Rw 1 (ah (aw (fun i k=>z (m*i+k)) (fun i k=>ln (m*i+k)) m 1)) n) (hy:Φ y=Rw 1 (ah (aP (fun i k=>ad (mk (ln (m*i+k)) (z (m*i+k)))) m 5)) n)
  (hn:n<=6) (hm:m<=6) (hnl:nl<=9223372036854775807) (hml:∀q,ml q<=9223372036854775807) (hz:∀q j,sg (al q j) (Proofs.Ytomamliepbhegaa.val 4294967296 ((xl q j).take 1))=z q j) (hN:∀q,q<nl->min (ml q) 3=ln q) (hN0:∀q,¬q<nl->ln q=0) (hln:∀q,ln q<=1000000) :
  aj Φ Try.prog ⟨9,[.fact p,.fact q,.fact r],[oS x,oS y],true⟩:=
 aT (As (n:=n) (m:=m) hn hm hnl hml hz hN hN0 hln) ⟨hp,hq,hr,trivial⟩ ⟨⟨rfl,⟨rfl,rfl,fun _ _ h=>hx▸aE.rw h⟩,trivial⟩,⟨rfl,⟨rfl,rfl,fun _ _ h=>hy▸aE.rw h⟩,trivial⟩,trivial⟩
theorem zE {f:Nat->Int}{c K l:Nat} (hl:l<=c) (hb:∀j,j<l->Bd (f j).natAbs K):EOk c K (ad (mk l f)):=by
 refine ⟨by rw [iE];exact Nat.le_trans (bC _ _) hl,Ln _,fun i=>?_⟩
 rw [fu,dt]
 split
 ·exact hb i (by assumption)
 ·exact Nat.pow_pos (by omega)
end
end Go.Proofs.Ytomamliepbhegaa.Sym
