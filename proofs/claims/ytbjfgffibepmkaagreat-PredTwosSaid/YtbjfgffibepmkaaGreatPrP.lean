/- pred's functions over cu -/
import Derived.Test.YtbjfgffibepmkaaGreatPrN
import Derived.Test.YtbjfgffibepmkaaGreatPrO
import Derived.Test.YtbjfgffibepmkaaGreatDtY
set_option maxRecDepth 100000
namespace Go.Proofs.YtbjfgffibepmkaaGreat.Sym
open Go.Proofs.Tryz
open Go.RowKit
variable {w:World}{v:Value}{K c k l p p0 p1 p2 q0 r0 x:Nat}{D0 a b d:Int}{P Q X X0 Y Y0:List Int}{Φ:PH}{L:Nat->List Int}{J:List Nat}
theorem ak.jV {z:Int} (h:ak w v z k):v.cells.size=2∧ak w (.agg v.cells) z k:=by
 obtain ⟨l,rfl,hl,_⟩:=ak.cells h
 exact ⟨by simpa [Value.cells] using hl,h⟩
def Cv4 (A B C:WP) (w:World) (v:Value):Prop:=∃a b s t,fW [.s,.s,.b,.s] [a,b,s,t]∧v = .agg #[a,b,s,t]∧A w a∧B w b∧C w (.agg #[s,t])
section
variable {q r y z:Nat}{A B C:WP}
theorem lh (hp:∀w v,Φ p w v->A w v) (hq:∀w v,Φ q w v->B w v) (hr:∀w v,Φ r w v->C w v) (hx:Φ x=Cv4 A B C) (Z:Nat->Prop) (w:World) (v:Value) (h:(Arg.parts cS [(0,1,p),(1,1,q),(2,2,r)]).ok Φ Z w v):(Arg.fact x).ok Φ Z w v:=fun w1 hw=>by
 rw [hx]
 obtain ⟨⟨vs,rfl,hvs⟩,hf⟩:=h
 match vs,hvs with
 | [a,b,n,s],hvs=>
  obtain ⟨⟨_,_,_,rfl⟩,⟨_,_,_,rfl⟩,⟨_,rfl⟩,⟨_,_,_,rfl⟩,_⟩:=id hvs
  refine ⟨_,_,_,_,hvs,rfl,?_,?_,?_⟩
  ·have:=hp _ _ (hf (0,1,p) (by simp) w1 hw)
   simpa [bn,cellsOf,Value.cells] using this
  ·have:=hq _ _ (hf (1,1,q) (by simp) w1 hw)
   simpa [bn,cellsOf,Value.cells] using this
  ·have:=hr _ _ (hf (2,2,r) (by simp) w1 hw)
   simpa [bn,cellsOf,Value.cells] using this
theorem Cv4.cells4  (h:Cv4 A B C w v):v.cells.size=4∧Cv4 A B C w (.agg v.cells):=by
 obtain ⟨a,b,n,s,hvs,rfl,h1,h2,h3⟩:=h
 obtain ⟨⟨_,_,_,rfl⟩,⟨_,_,_,rfl⟩,⟨_,rfl⟩,⟨_,_,_,rfl⟩,_⟩:=id hvs
 exact ⟨by simp [Value.cells],⟨_,_,_,_,hvs,by simp [Value.cells],h1,h2,h3⟩⟩
theorem fx {T:TypeId} (hp:∀w v,Φ p w v->Ptr 4 (Cv4 A B C) w v) (hx:Φ x=A) (hy:Φ y=B) (hd:Φ z=C) (hT:gC prog T=some true:=by kernel_rfl) (hz:dg prog T=some 4:=by kernel_rfl) :
  aj Φ prog ⟨0,[.fact p],[⟨cS,[(0,1,x),(1,1,y),(2,2,z)]⟩],.quiet (aO T)⟩:=fun Z w ac o xs _ hm ha=>by
 unfold aO at hm
 split at hm
 case h_2=>cases hm
 rename_i t u ho
 split at hm
 case isFalse=>cases hm
 rename_i ht
 subst ht
 simp only [Option.some.injEq] at hm
 subst hm
 have A0:∀w1,Off Z w w1->Ptr 4 (Cv4 A B C) w1 (ac.eval u):=fun w1 hw=>hp _ _ (ha.1 w1 hw)
 obtain ⟨b,off,hv,l,h1,h2,h3⟩:=A0 w (Off.refl _ _)
 obtain ⟨g,hg,hZ,hlt⟩:=jE (sz:=4) (n:=1) (F:=fun _=>Cv4 A B C) (X:=Z) (w:=w) (s:=.slice (some ⟨b,off,none⟩) 1 1) (z0:=.bool true) (fun i w l hl _=>by
  obtain ⟨a,b',n,s,hvs,e,-⟩:=hl
  obtain rfl:l = [a,b',n,s]:=by simpa using e
  obtain ⟨⟨_,_,_,rfl⟩,-⟩:=hvs
  exact ⟨_,rfl,fun h=>(by cases h),fun _ _ h=>by cases h⟩) (fun w1 hw=>by
  obtain ⟨b',off',e,l',g1,g2,g3⟩:=A0 w1 hw
  rw [hv] at e
  simp only [Value.pointer.injEq,Option.some.injEq,Addr.mk.injEq,and_true] at e
  obtain ⟨rfl,rfl⟩:=e
  refine ⟨_,_,rfl,Nat.le_refl _,fun i hi=>⟨b,off,rfl,l',g1,fun j u hj=>?_,g3⟩⟩
  obtain rfl:i=0:=by omega
  rw [Nat.zero_mul,Nat.add_zero];exact g2 j u hj)
 simp only [blk,Option.some.injEq] at hg
 subst hg
 have key:∀w1,Off Z w w1->Cv4 A B C w1 (.agg l.toArray):=fun w1 hw=>by
  obtain ⟨b',off',e,l',g1,g2,g3⟩:=A0 w1 hw
  rw [hv] at e
  simp only [Value.pointer.injEq,Option.some.injEq,Addr.mk.injEq,and_true] at e
  obtain ⟨rfl,rfl⟩:=e
  have:l'=l:=by
   refine List.ext_getElem (by rw [g1,h1]) fun j hj hj'=>?_
   have e1:=g2 j _ (List.getElem?_eq_getElem hj)
   rw [World.cell?_of_block (hw.2 b hlt hZ),h2 j _ (List.getElem?_eq_getElem hj')] at e1
   exact (Option.some.inj e1).symm
  rwa [this] at g3
 refine ⟨.agg l.toArray,w,?_,bt w none,⟨⟨?_,fun r hr w1 hw=>?_⟩,trivial⟩⟩
 ·have hrun:=run_loadCells_list (P:=prog) w ⟨b,off,none⟩ l (fun j u hj=>by rw [gV];exact h2 j u hj)
  rw [h1] at hrun
  unfold execOp
  simp [ho,hv,Instr.loadAt,Instr.sureAddr,loadVar,gD hT,run_sizeOf hz,hrun]
 ·obtain ⟨a,b',n,s,hvs,e,-⟩:=h3
  obtain rfl:l = [a,b',n,s]:=by simpa using e
  exact ⟨_,rfl,hvs⟩
 ·obtain ⟨a,b',n,s,hvs,e,k1,k2,k3⟩:=key w1 hw
  obtain rfl:l = [a,b',n,s]:=by simpa using e
  obtain ⟨⟨_,_,_,rfl⟩,⟨_,_,_,rfl⟩,⟨_,rfl⟩,⟨_,_,_,rfl⟩,_⟩:=hvs
  simp only [List.mem_cons,List.not_mem_nil,or_false] at hr
  rcases hr with rfl | rfl | rfl
  ·show Φ x w1 _;rw [hx];simpa [bn,cellsOf,Value.cells] using k1
  ·show Φ y w1 _;rw [hy];simpa [bn,cellsOf,Value.cells] using k2
  ·show Φ z w1 _;rw [hd];simpa [bn,cellsOf,Value.cells] using k3
end
abbrev cO (x y:Nat->Int) (n m:Nat) (d:Int) (k:Nat):WP:=Cv4 (Rw 2 (If x k) n) (Rw 2 (If y k) m) (Iw d k)
abbrev dK (L:Nat->List Int) (K:Nat):PH:=bT (fun j=>ae (L j)) (fun j=>(L j).length) K
abbrev cA (M:Nat->Nat->List Int) (n K:Nat):PH:=bh (fun i j=>ae (M i j)) (fun i j=>(M i j).length) n K
def bw {α:Type} (a b c:α) (i:Nat):α:=if i=0 then a else if i=1 then b else c
def bk {α:Type} (a b c d:α) (i:Nat):α:=if i=0 then a else if i=1 then b else if i=2 then c else d
structure CuG (x y:Nat->Int) (n m:Nat) (d:Int) (X Y:List Int) (D:Int) (c k:Nat):Prop where
 nu:fX x y n m d X Y D
 hn:n<=1000
 hm:m<=1000
 k1:1<=k
 k2:k<=20
 c2:c<=20
 oX:EOk c k X
 oY:EOk c k Y
 oD:EOk 1 k [D]
theorem mB  (ha:cG [a]) (hb:cG [b]):ah [a] [b] = [a*b]:=by
 have ha0:a≠0:=ha (by simp)
 have hb0:b≠0:=hb (by simp)
 have h:cG [a*b]:=fun _=>Int.mul_ne_zero ha0 hb0
 rw [<- rb]
 exact et h
theorem EOk.eV  (h:EOk c k P) (g:EOk 1 l [a]):EOk c (k+l) (ah P [a]):=by
 refine ⟨?_,nG _ _ _ _,fun i=>?_⟩
 ·rw [<- rb,eQ]
  exact Nat.le_trans (bi _ _) h.len
 ·rw [<- rb,fM,cM]
  split
  ·rw [Int.natAbs_mul];exact (h.bd i).mul (g.bd 0)
  ·exact Nat.pow_pos (by omega)
theorem EOk.dj  (h:EOk 1 k [a]) (g:EOk 1 l [b]):EOk 1 (k+l) [a*b]:=mB h.nrm g.nrm▸h.eV g
theorem DE {m:Nat} (hp:∀w v,Φ p w v->Rw 1 (aw (dK L K)) m w v) (hx:Φ x=Rw 1 (aw (dK L K)) m) (hL:∀j,(L j).length<=1000000) (hN:∀j,cG (L j)) (hm:m<=1000:=by omega) (hK:K<=100000:=by omega):aj Φ prog ⟨97,[.fact p],[oS x],false⟩:=by
 refine LD (z:=fun j=>ae (L j)) (ln:=fun j=>(L j).length) hp ?_ hm hK hL
 rw [hx]
 have e:(fun j=>an (mk (L j).length (ae (L j))))=L:=funext fun j=>et (hN j)
 show (Rw 1 (aw (bT (fun j=>ae (L j)) (fun j=>(L j).length) K)) m)=Rw 1 (aw (bT (fun j=>ae ((fun j=>an (mk (L j).length (ae (L j)))) j)) (fun j=>((fun j=>an (mk (L j).length (ae (L j)))) j).length) K)) m
 rw [e]
def Tx (a b:Int) (k:Nat):List WP:=[Rw 2 (Nf (ae [a,b]) k) 2,Nw (1:Int) 2,Ptr 2 (Nw ((ae [a,b]) 0) k),Nw ((ae [a,b]) 0) k,Nw ((1:Int)*((ae [a,b]) 0)) (2+k),Ptr 2 (Nw ((ae [a,b]) 1) k),Nw ((ae [a,b]) 1) k,Nw (((1:Int)*((ae [a,b]) 0))*((ae [a,b]) 1)) ((2+k)+k)]
def Ty:List Step:=[.base ⟨104,[.lit (.ci .i64 1)],[oI 1],false⟩,bQ [0] [oL (.ci .i64 2)] (aK 23),.rounds 3,bQ [0,.lit (.ci .i64 0)] [oP 2] (aN 23),bQ [2] [oI 3] (aO 27),.base ⟨135,[1,3],[oI 4],false⟩,bQ [0,.lit (.ci .i64 1)] [oP 5] (aN 23),bQ [5] [oI 6] (aO 27),.base ⟨135,[4,6],[oI 7],false⟩]
def Tz:List Out:=[oS 0]
theorem TA  (hk:k<=100000):aj (ph (Tx a b k)) prog ⟨100,[0],[oI 7],false⟩:=aQ Tz [oI 7] Ty func100 (by kernel_rfl) (lB (yE (z:=1) rfl rfl) (lB (iT (n:=2) (sz:=2) (F:=(Nf (ae [a,b]) k)) rfl underlying23 (fun _ _ h=>Rw.arr h)) (iU (lB (cI 0 (sz:=2) (n:=2) (F:=(Nf (ae [a,b]) k)) underlying23 (fun _ _ h=>Rw.arr h) rfl rfl) (lB (cU (sz:=2) (F:=Nw ((ae [a,b]) 0) k) ad (fun _ _ _ g h=>ak.kp h g) (fun _ _ h=>ak.is h) rfl) (lB (qV nI nI rfl rfl) (lB (cI 1 (sz:=2) (n:=2) (F:=(Nf (ae [a,b]) k)) underlying23 (fun _ _ h=>Rw.arr h) rfl rfl) (lB (cU (sz:=2) (F:=Nw ((ae [a,b]) 1) k) ad (fun _ _ _ g h=>ak.kp h g) (fun _ _ h=>ak.is h) rfl) (lB (qV nI nI rfl rfl) aD)))))))))
  (aM [.fact 0 (.one (.s))] ⟨Rw.Is 2 (Nf (ae [a,b]) k) 2,trivial⟩) aV
theorem vt  (hp:∀w v,Φ p w v->Rw 2 (Nf (ae [a,b]) k) 2 w v) (hx:Φ x=Nw (a*b) (k+k)) (ha:Bd a.natAbs k) (hb:Bd b.natAbs k) (hk:k<=100000:=by omega):aj Φ prog ⟨100,[.fact p],[⟨iS,[(0,0,x)]⟩],false⟩:=
 aT (TA (a:=a) (b:=b) hk) ⟨hp,trivial⟩ ⟨⟨rfl,⟨rfl,rfl,fun w v h=>by
  rw [hx]
  have h':=ak.eq h (show _=a*b by simp [ae])
  exact ak.re h' (by rw [Int.natAbs_mul];exact ha.mul hb)⟩,trivial⟩,trivial⟩
theorem oA {q l:Nat}{y:Int} (hp:∀w v,Φ p w v->Rw 2 (Nf (ae P) k) P.length w v) (hq:∀w v,Φ q w v->ak w v y l) (hx:Φ x=Rw 2 (Nf (ae (ah P [y])) K) (ah P [y]).length) (hn:P.length<=1000000) (hb:∀i,Bd (ae (ah P [y]) i).natAbs K) (hk:k<=200000:=by omega) (hl:l<=200000:=by omega):aj Φ prog ⟨92,[.fact p,.fact q],[oS x],false⟩:=
 aT (QL (Φ:=ph [fun w v=>Rw 2 (fun ι w v=>ak w v (ae P ι) k) P.length w v,Nw y l,fun w v=>Rw 2 (fun ι w v=>ak w v (ae (ah P [y]) ι) (k+l)) (ah P [y]).length w v]) (p:=0) (q:=1) (x:=2) (z:=ae P) (n:=P.length) (y:=y) (L:=ah P [y]) (k:=k) (l:=l) (fun _ _ h=>Rw.to (sz:=2) (n:=P.length) (F:=fun ι w v=>ak w v (ae P ι) k) h fun _ _ _ _ h=>ak.i h) (fun _ _ h=>ak.i h) rfl (hn:=hn) rb) ⟨hp,hq,trivial⟩ ⟨⟨rfl,⟨rfl,rfl,fun w v h=>by rw [hx];exact Rw.to (sz:=2) (n:=(ah P [y]).length) (F:=fun ι w v=>ak w v (ae (ah P [y]) ι) (k+l)) h fun i w v _ h=>ak.re h (hb i)⟩,trivial⟩,trivial⟩
def TB (P Q:List Int) (d e:Int) (k:Nat):List WP:=[Rw 2 (Nf (ae P) k) P.length,Nw d k,Rw 2 (Nf (ae Q) k) Q.length,Nw e k,Rw 2 (Nf (ae (ah Q [d])) 2000) ((ah Q [d]).length),Rw 2 (Nf (ae (ah P [e])) 2000) ((ah P [e]).length),Rw 2 (Nf (ae (aP (ah Q [d]) (bK (ah P [e])))) 2000) ((aP (ah Q [d]) (bK (ah P [e]))).length)]
def TC:List Step:=[.base ⟨92,[2,1],[oS 4],false⟩,.base ⟨92,[0,3],[oS 5],false⟩,.base ⟨62,[4,5],[oS 6],false⟩]
def TD:List Out:=[oS 0,oI 1,oS 2,oI 3]
theorem TE {e:Int} (hk:k<=900) (hc:c<=300) (hP:EOk c k P) (hQ:EOk c k Q) (hd:EOk 1 k [d]) (he:EOk 1 k [e]):aj (ph (TB P Q d e k)) prog ⟨54,[0,1,2,3],[oS 6],false⟩:=aQ TD [oS 6] TC func54 (by kernel_rfl) (lB (oA (P:=Q) (y:=d) (K:=2000) ad nN rfl (by have:=hQ.len;omega) (fun i=>((hQ.eV hd).bd i).more (by omega))) (lB (oA (P:=P) (y:=e) (K:=2000) ad nN rfl (by have:=hP.len;omega) (fun i=>((hP.eV he).bd i).more (by omega))) (lB (tu (A:=(ah Q [d])) (B:=(ah P [e])) (z:=(ae (ah Q [d]))) (n:=(ah Q [d]).length) (y:=(ae (ah P [e]))) (m:=(ah P [e]).length) (k:=2000) (l:=2000) (K:=2000) (Rw.To 2 (Nf (ae (ah Q [d])) 2000) ((ah Q [d]).length) (fun _ _ _ _ h=>ak.i h)) (Rw.To 2 (Nf (ae (ah P [e])) 2000) ((ah P [e]).length) (fun _ _ _ _ h=>ak.i h)) (et (hQ.eV hd).nrm) (et (hP.eV he).nrm) rfl (by have:=(hQ.eV hd).len;omega) (by have:=(hP.eV he).len;omega) (fun i=>(((hQ.eV hd).add (hP.eV he).neg).bd i).more (by omega))) aD)))
  (aM [.fact 0 (.one (.s)),.fact 1 (.agg [.b,.s]),.fact 2 (.one (.s)),.fact 3 (.agg [.b,.s])] ⟨Rw.Is 2 (Nf (ae P) k) P.length,fun _ _ h=>ak.is h,Rw.Is 2 (Nf (ae Q) k) Q.length,fun _ _ h=>ak.is h,trivial⟩) aV
section
variable {q r s:Nat}{e:Int}
theorem DF (hp:∀w v,Φ p w v->Rw 2 (Nf (ae P) k) P.length w v) (hq:∀w v,Φ q w v->ak w v d k) (hr:∀w v,Φ r w v->Rw 2 (Nf (ae Q) k) Q.length w v) (hs:∀w v,Φ s w v->ak w v e k) (hx:Φ x=Rw 2 (Nf (ae (crL P Q d e)) 2000) (crL P Q d e).length) (hP:EOk c k P) (hQ:EOk c k Q) (hd:EOk 1 k [d]) (he:EOk 1 k [e]) (hk:k<=900:=by omega) (hc:c<=300:=by omega):aj Φ prog ⟨54,[.fact p,.fact q,.fact r,.fact s],[oS x],false⟩:=
 aT (TE hk hc hP hQ hd he) ⟨hp,hq,hr,hs,trivial⟩ ⟨⟨rfl,⟨rfl,rfl,fun _ _ h=>hx▸h⟩,trivial⟩,trivial⟩
end
def TF (P Q:List Int) (k:Nat):List WP:=[Rw 2 (Nf (ae P) k) P.length,Rw 2 (Nf (ae Q) k) Q.length,Rw 2 (Nf (ae (ah P P)) 2000) ((ah P P).length),Rw 2 (Nf (ae (ah Q Q)) 2000) ((ah Q Q).length),Rw 2 (Nf (ae (aP (ah P P) (ah Q Q))) 2000) ((aP (ah P P) (ah Q Q)).length)]
def TG:List Step:=[.base ⟨142,[0,0],[oS 2],false⟩,.base ⟨142,[1,1],[oS 3],false⟩,.base ⟨141,[2,3],[oS 4],false⟩]
def TH:List Out:=[oS 0,oS 1]
theorem TI  (hk:k<=800) (hc:c<=100) (hP:EOk c k P) (hQ:EOk c k Q):aj (ph (TF P Q k)) prog ⟨99,[0,1],[oS 4],false⟩:=aQ TH [oS 4] TG func99 (by kernel_rfl) (lB (qg (c:=1000) (A:=P) (B:=P) (z:=(ae P)) (n:=P.length) (y:=(ae P)) (m:=P.length) (k:=k) (l:=k) (K:=2000) (Rw.To 2 (Nf (ae P) k) P.length (fun _ _ _ _ h=>ak.i h)) (Rw.To 2 (Nf (ae P) k) P.length (fun _ _ _ _ h=>ak.i h)) (et hP.nrm) (et hP.nrm) rfl (by have:=hP.len;omega) (by have:=hP.len;omega) (fun i=>((hP.mul hP).bd i).more (by omega))) (lB (qg (c:=1000) (A:=Q) (B:=Q) (z:=(ae Q)) (n:=Q.length) (y:=(ae Q)) (m:=Q.length) (k:=k) (l:=k) (K:=2000) (Rw.To 2 (Nf (ae Q) k) Q.length (fun _ _ _ _ h=>ak.i h)) (Rw.To 2 (Nf (ae Q) k) Q.length (fun _ _ _ _ h=>ak.i h)) (et hQ.nrm) (et hQ.nrm) rfl (by have:=hQ.len;omega) (by have:=hQ.len;omega) (fun i=>((hQ.mul hQ).bd i).more (by omega))) (lB (zp (A:=(ah P P)) (B:=(ah Q Q)) (z:=(ae (ah P P))) (n:=(ah P P).length) (y:=(ae (ah Q Q))) (m:=(ah Q Q).length) (k:=2000) (l:=2000) (K:=2000) (Rw.To 2 (Nf (ae (ah P P)) 2000) ((ah P P).length) (fun _ _ _ _ h=>ak.i h)) (Rw.To 2 (Nf (ae (ah Q Q)) 2000) ((ah Q Q).length) (fun _ _ _ _ h=>ak.i h)) (et (hP.mul hP).nrm) (et (hQ.mul hQ).nrm) rfl (by have:=(hP.mul hP).len;omega) (by have:=(hQ.mul hQ).len;omega) (fun i=>(((hP.mul hP).add (hQ.mul hQ)).bd i).more (by omega))) aD)))
  (aM [.fact 0 (.one (.s)),.fact 1 (.one (.s))] ⟨Rw.Is 2 (Nf (ae P) k) P.length,Rw.Is 2 (Nf (ae Q) k) Q.length,trivial⟩) aV
section
variable {q:Nat}
theorem DG (hp:∀w v,Φ p w v->Rw 2 (Nf (ae P) l) P.length w v) (hq:∀w v,Φ q w v->Rw 2 (Nf (ae Q) l) Q.length w v) (hx:Φ x=Rw 2 (Nf (ae (aP (ah P P) (ah Q Q))) 2000) (aP (ah P P) (ah Q Q)).length) (hP:EOk c k P) (hQ:EOk c k Q) (hk:k<=800:=by omega) (hc:c<=100:=by omega):aj Φ prog ⟨99,[.fact p,.fact q],[oS x],false⟩:=
 aT (TI hk hc hP hQ) ⟨fun w v h=>Rw.to (sz:=2) (n:=P.length) (F:=Nf (ae P) l) (hp w v h) fun i _ _ _ h=>ak.re h (hP.bd i),fun w v h=>Rw.to (sz:=2) (n:=Q.length) (F:=Nf (ae Q) l) (hq w v h) fun i _ _ _ h=>ak.re h (hQ.bd i),trivial⟩ ⟨⟨rfl,⟨rfl,rfl,fun _ _ h=>hx▸h⟩,trivial⟩,trivial⟩
end
theorem TO  (h0:∀w v,Φ p0 w v->dK L K 0 w v) (h1:∀w v,Φ p1 w v->dK L K 1 w v) (h2:∀w v,Φ p2 w v->dK L K 2 w v) (hx:Φ x=Rw 1 (aw (dK L K)) 3):aj Φ prog ⟨0,[.any,.fact p0,.fact p1,.fact p2],[oS x],.fresh J (cu 129 3)⟩:=
 eP (ps:=[p0,p1,p2]) (sz:=1) (zc:=.one .nl) underlying129 rfl (fun j r h w v hv=>by
  have sl:∀i,dK L K i w v->v.cells = #[v]:=fun i h=>by
   obtain ⟨p,n,c,rfl⟩:=slI _ _ _ i w v h;rfl
  match j,h with
  | 0,h=>
   obtain rfl:=Option.some.inj h
   have e:=sl 0 (h0 w v hv)
   exact ⟨by rw [e];rfl,v,by rw [e],h0 w v hv⟩
  | 1,h=>
   obtain rfl:=Option.some.inj h
   have e:=sl 1 (h1 w v hv)
   exact ⟨by rw [e];rfl,v,by rw [e],h1 w v hv⟩
  | 2,h=>
   obtain rfl:=Option.some.inj h
   have e:=sl 2 (h2 w v hv)
   exact ⟨by rw [e];rfl,v,by rw [e],h2 w v hv⟩
  | j+3,h=>simp at h) hx
theorem TP {p3:Nat} (h0:∀w v,Φ p0 w v->dK L K 0 w v) (h1:∀w v,Φ p1 w v->dK L K 1 w v) (h2:∀w v,Φ p2 w v->dK L K 2 w v) (h3:∀w v,Φ p3 w v->dK L K 3 w v) (hx:Φ x=Rw 1 (aw (dK L K)) 4):aj Φ prog ⟨0,[.any,.fact p0,.fact p1,.fact p2,.fact p3],[oS x],.fresh J (cu 129 4)⟩:=
 eP (ps:=[p0,p1,p2,p3]) (sz:=1) (zc:=.one .nl) underlying129 rfl (fun j r h w v hv=>by
  have sl:∀i,dK L K i w v->v.cells = #[v]:=fun i h=>by
   obtain ⟨p,n,c,rfl⟩:=slI _ _ _ i w v h;rfl
  match j,h with
  | 0,h=>
   obtain rfl:=Option.some.inj h
   have e:=sl 0 (h0 w v hv)
   exact ⟨by rw [e];rfl,v,by rw [e],h0 w v hv⟩
  | 1,h=>
   obtain rfl:=Option.some.inj h
   have e:=sl 1 (h1 w v hv)
   exact ⟨by rw [e];rfl,v,by rw [e],h1 w v hv⟩
  | 2,h=>
   obtain rfl:=Option.some.inj h
   have e:=sl 2 (h2 w v hv)
   exact ⟨by rw [e];rfl,v,by rw [e],h2 w v hv⟩
  | 3,h=>
   obtain rfl:=Option.some.inj h
   have e:=sl 3 (h3 w v hv)
   exact ⟨by rw [e];rfl,v,by rw [e],h3 w v hv⟩
  | j+4,h=>simp at h) hx
def gL (X Y:List Int) (d:Int):Nat->List Int:=da (ah X [d]) (ah Y [d]) (aP (ah X X) (ah Y Y)) [d*d]
theorem TQ  (hk:k<=20) (hc:c<=20) (hX:EOk c k X) (hY:EOk c k Y) (hd:EOk 1 k [d]) (j:Nat):EOk 100 100 (gL X Y d j):=
 DD ((hX.eV hd).more (by omega) (by omega)) ((hY.eV hd).more (by omega) (by omega)) (((hX.mul hX).add (hY.mul hY)).more (by omega) (by omega)) ((hd.dj hd).more (by omega) (by omega)) j
theorem rk  (hd:cG [d]):gL X Y d=lf X Y d:=by rw [gL,lf,mB hd hd]
def TR (X0 Y0:List Int) (D0:Int) (k:Nat):List WP:=[Rw 2 (Nf (ae X0) k) X0.length,Rw 2 (Nf (ae Y0) k) Y0.length,Nw D0 k,Rw 2 (Nf (ae ([D0])) k) 1,Rw 1 (aw (dK (cX X0 Y0 [D0]) 2000)) 3,Rw 1 (aw (dK (cX X0 Y0 [D0]) 2000)) 3]
def TS:List Step:=[.base ⟨0,[.any,2],[oS 3],.fresh [] (cu 24 1)⟩,.base ⟨0,[.any,0,1,3],[oS 4],.fresh [] (cu 129 3)⟩,.base ⟨97,[4],[oS 5],false⟩]
def TU:List Out:=[⟨.agg [.s,.s,.b,.s],[(0,1,0),(1,1,1),(2,2,2)]⟩]
theorem TV  (hk:k<=20) (hc:c<=20) (hX0:EOk c k X0) (hY0:EOk c k Y0) (hD0:EOk 1 k [D0]):aj (ph (TR X0 Y0 D0 k)) prog ⟨58,[.parts (.agg [.s,.s,.b,.s]) [(0,1,0),(1,1,1),(2,2,2)]],[oS 5],false⟩:=by
 have hR:=rh (hX0.more (show c<=21 by omega) (Nat.le_refl k)) (hY0.more (show c<=21 by omega) (Nat.le_refl k)) (hD0.more (show 1<=21 by omega) (Nat.le_refl k))
 exact aQ TU [oS 5] TS func58 (by kernel_rfl) (lB (eP (ps:=[2]) (sz:=2) (n:=1) (F:=(Nf (ae ([D0])) k)) (zc:=.agg [.cb false,.nl]) underlying24 rfl (yo (F:=(Nf (ae ([D0])) k)) (fun _ _ h=>ak.jV h)) rfl) (lB (TO (L:=(cX X0 Y0 [D0])) (K:=2000) (fun w v h=>Rw.to (sz:=2) (n:=X0.length) (F:=(Nf (ae X0) k)) h fun _ _ _ _ h=>(ak.i h).more (by omega)) (fun w v h=>Rw.to (sz:=2) (n:=Y0.length) (F:=(Nf (ae Y0) k)) h fun _ _ _ _ h=>(ak.i h).more (by omega)) (fun w v h=>Rw.to (sz:=2) (n:=1) (F:=(Nf (ae ([D0])) k)) h fun _ _ _ _ h=>(ak.i h).more (by omega)) rfl) (lB (DE (L:=(cX X0 Y0 [D0])) (K:=2000) ad rfl (fun j=>Nat.le_trans (hR j).len (by omega)) (fun j=>(hR j).nrm)) aD)))
  (aM [.parts (.agg [.s,.s,.b,.s]) [(0,1,0),(1,1,1),(2,2,2)]] ⟨trivial,trivial⟩) aV
def TW (X0 Y0:List Int) (D0:Int) (k:Nat):List WP:=[Rw 2 (Nf (ae X0) k) X0.length,Rw 2 (Nf (ae Y0) k) Y0.length,Nw D0 k,Rw 2 (Nf (ae (ah X0 [D0])) 2000) ((ah X0 [D0]).length),Rw 2 (Nf (ae (ah Y0 [D0])) 2000) ((ah Y0 [D0]).length),Rw 2 (Nf (ae (aP (ah X0 X0) (ah Y0 Y0))) 2000) ((aP (ah X0 X0) (ah Y0 Y0)).length),Rw 2 (Nf (ae ([D0,D0])) k) 2,Nw (D0*D0) (k+k),fun w v=>Rw 2 (fun ι w v=>ak w v ((ae ([(D0*D0)])) ι) (k+k)) 1 w v,Rw 1 (aw (dK (da (ah X0 [D0]) (ah Y0 [D0]) (aP (ah X0 X0) (ah Y0 Y0)) [(D0*D0)]) 2000)) 4,Rw 1 (aw (dK (da (ah X0 [D0]) (ah Y0 [D0]) (aP (ah X0 X0) (ah Y0 Y0)) [(D0*D0)]) 2000)) 4]
def TX:List Step:=[.base ⟨92,[0,2],[oS 3],false⟩,.base ⟨92,[1,2],[oS 4],false⟩,.base ⟨99,[0,1],[oS 5],false⟩,.base ⟨0,[.any,2,2],[oS 6],.fresh [] (cu 23 2)⟩,.base ⟨100,[6],[oI 7],false⟩,.base ⟨0,[.any,7],[oS 8],.fresh [] (cu 24 1)⟩,.base ⟨0,[.any,3,4,5,8],[oS 9],.fresh [] (cu 129 4)⟩,.base ⟨97,[9],[oS 10],false⟩]
def TY:List Out:=[⟨.agg [.s,.s,.b,.s],[(0,1,0),(1,1,1),(2,2,2)]⟩]
theorem TZ  (hk:k<=20) (hc:c<=20) (hX0:EOk c k X0) (hY0:EOk c k Y0) (hD0:EOk 1 k [D0]):aj (ph (TW X0 Y0 D0 k)) prog ⟨60,[.parts (.agg [.s,.s,.b,.s]) [(0,1,0),(1,1,1),(2,2,2)]],[oS 10],false⟩:=by
 have hR:=TQ hk hc hX0 hY0 hD0
 exact aQ TY [oS 10] TX func60 (by kernel_rfl) (lB (oA (P:=X0) (y:=D0) (K:=2000) ad nN rfl (by have:=hX0.len;omega) (fun i=>((hX0.eV hD0).bd i).more (by omega))) (lB (oA (P:=Y0) (y:=D0) (K:=2000) ad nN rfl (by have:=hY0.len;omega) (fun i=>((hY0.eV hD0).bd i).more (by omega))) (lB (DG (l:=k) ad ad rfl hX0 hY0) (lB (eP (ps:=[2,2]) (sz:=2) (n:=2) (F:=(Nf (ae ([D0,D0])) k)) (zc:=.agg [.cb false,.nl]) underlying23 rfl (sO (F:=(Nf (ae ([D0,D0])) k)) (fun _ _ h=>ak.jV h) (fun _ _ h=>ak.jV h)) rfl) (lB (vt (a:=D0) (b:=D0) (k:=k) ad rfl (hD0.bd 0) (hD0.bd 0)) (lB (eP (ps:=[7]) (sz:=2) (n:=1) (F:=(fun ι w v=>ak w v ((ae ([(D0*D0)])) ι) (k+k))) (zc:=.agg [.cb false,.nl]) underlying24 rfl (yo (F:=(fun ι w v=>ak w v ((ae ([(D0*D0)])) ι) (k+k))) (fun _ _ h=>ak.jV h)) rfl) (lB (TP (L:=(da (ah X0 [D0]) (ah Y0 [D0]) (aP (ah X0 X0) (ah Y0 Y0)) [(D0*D0)])) (K:=2000) (fun w v h=>Rw.to (sz:=2) (n:=(ah X0 [D0]).length) (F:=(Nf (ae (ah X0 [D0])) 2000)) h fun _ _ _ _ h=>(ak.i h).more (by omega)) (fun w v h=>Rw.to (sz:=2) (n:=(ah Y0 [D0]).length) (F:=(Nf (ae (ah Y0 [D0])) 2000)) h fun _ _ _ _ h=>(ak.i h).more (by omega)) (fun w v h=>Rw.to (sz:=2) (n:=(aP (ah X0 X0) (ah Y0 Y0)).length) (F:=(Nf (ae (aP (ah X0 X0) (ah Y0 Y0))) 2000)) h fun _ _ _ _ h=>(ak.i h).more (by omega)) (fun w v h=>Rw.to (sz:=2) (n:=1) (F:=(fun ι w v=>ak w v ((ae ([(D0*D0)])) ι) (k+k))) h fun _ _ _ _ h=>(ak.i h).more (by omega)) rfl) (lB (DE (L:=(da (ah X0 [D0]) (ah Y0 [D0]) (aP (ah X0 X0) (ah Y0 Y0)) [(D0*D0)])) (K:=2000) ad rfl (fun j=>Nat.le_trans (hR j).len (by omega)) (fun j=>(hR j).nrm)) aD))))))))
  (aM [.parts (.agg [.s,.s,.b,.s]) [(0,1,0),(1,1,1),(2,2,2)]] ⟨trivial,trivial⟩) aV
theorem vu  (hp0:∀w v,Φ p0 w v->Rw 2 (Nf (ae X0) k) X0.length w v) (hq0:∀w v,Φ q0 w v->Rw 2 (Nf (ae Y0) k) Y0.length w v) (hr0:∀w v,Φ r0 w v->ak w v D0 k) (hx:Φ x=Rw 1 (aw (dK (cX X0 Y0 [D0]) 2000)) 3) (hk:k<=20) (hc:c<=20) (hX0:EOk c k X0) (hY0:EOk c k Y0) (hD0:EOk 1 k [D0]):aj Φ prog ⟨58,[.parts cS [(0,1,p0),(1,1,q0),(2,2,r0)]],[oS x],false⟩:=
 aT (TV hk hc hX0 hY0 hD0) ⟨⟨rfl,⟨rfl,rfl,hp0⟩,⟨rfl,rfl,hq0⟩,⟨rfl,rfl,hr0⟩,trivial⟩,trivial⟩ ⟨⟨rfl,⟨rfl,rfl,fun _ _ h=>hx▸h⟩,trivial⟩,trivial⟩
theorem rm  (hp0:∀w v,Φ p0 w v->Rw 2 (Nf (ae X0) k) X0.length w v) (hq0:∀w v,Φ q0 w v->Rw 2 (Nf (ae Y0) k) Y0.length w v) (hr0:∀w v,Φ r0 w v->ak w v D0 k) (hx:Φ x=Rw 1 (aw (dK (gL X0 Y0 D0) 2000)) 4) (hk:k<=20) (hc:c<=20) (hX0:EOk c k X0) (hY0:EOk c k Y0) (hD0:EOk 1 k [D0]):aj Φ prog ⟨60,[.parts cS [(0,1,p0),(1,1,q0),(2,2,r0)]],[oS x],false⟩:=
 aT (TZ hk hc hX0 hY0 hD0) ⟨⟨rfl,⟨rfl,rfl,hp0⟩,⟨rfl,rfl,hq0⟩,⟨rfl,rfl,hr0⟩,trivial⟩,trivial⟩ ⟨⟨rfl,⟨rfl,rfl,fun _ _ h=>hx▸h⟩,trivial⟩,trivial⟩
end Go.Proofs.YtbjfgffibepmkaaGreat.Sym
