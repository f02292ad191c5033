/- keep.Within by a number that is not closed; small helpers of layer 13's laws. keep.Copy of rows of polynomials: a row of the caller's own. Layer 13's laws: polynomials that came in, and what is known of them. -/
import Derived.Test.YtomamliepbhegaaDtW
import Derived.Test.YtomamliepbhegaaPolO
import Derived.Test.YtomamliepbhegaaCatN
import Derived.Test.YtomamliepbhegaaPolQ
set_option maxRecDepth 100000
namespace Go.Proofs.Ytomamliepbhegaa.Sym
open Go.RowKit
theorem Ah {Φ:PH}{p q x n k:Nat}{m:Int} (hp:∀w v,Φ p w v->v = .int .i64 m) (hq:∀w v,Φ q w v->v = .int .i64 (n:Int)) (h1:1<=n) (h2:n<=1000000) (hw:bX m n=k) (hx:Φ x=Ni (k:Int)):aj Φ Try.prog ⟨8,[.fact p,.fact q],[oN x],false⟩:=Ld fun X w v u g1 g2=>by
 rw [hp _ _ (get g1),hq _ _ (get g2)]
 refine (rX m n w h1 h2).mono fun e w' h=>?_
 obtain ⟨rfl,rfl⟩:=h
 rw [hw]
 exact ⟨ba _ _,[_],rfl,⟨⟨⟨_,rfl⟩,fun _ h=>by cases h⟩,fun q hq w1 hw=>by
  simp only [List.mem_singleton] at hq;subst hq
  show Φ x w1 _;rw [hx];rfl⟩,trivial⟩
def qL (F:PH) (n:Nat):List WP:=[Rw 1 (ah F) n,aE 22 F n]
def qM:List Step:=[.base ⟨0,[.lit .nl,.fact 0],[oS 1],.loose [] 1 0 (cf 24 24)⟩]
def qN:List Out:=[oS 0]
theorem mz {F:PH}{n:Nat} (hS:∀i w s,F i w s->∃p n c,s = .slice p n c) (hn:n<=1000000):dJ (ph (qL F n)) Try.prog ⟨18,[.fact 0],[oS 1],false⟩:=by
 skip
 exact jq qN [oS 1] qM Try.func18 (by kernel_rfl)
  (lB (qJ (n:=n) (F:=F) Try.underlying24 (by kernel_rfl) hS aa hn rfl)
   aA)
  (aJ [.fact 0 (.one (.s))] ⟨Rw.Is 1 (ah F) n,trivial⟩) bg
end Go.Proofs.Ytomamliepbhegaa.Sym
namespace Go.Proofs.Ytomamliepbhegaa.dlaw
open Go.ChangeShapes Go.WideShapes Go.ChangeAt Go.RowKit
open Go.Proofs.Ytomamliepbhegaa.Sym hiding val run start
section
variable {H:Type}{enc:TypeId×Value->H}
theorem zC {W:World}{base:Nat}{held:Bool}{fuel:Nat}{cs:List Value}{x:DataW H×List MemPlace} (hf:DataW.trod enc Try.prog W base (fun _=>true) held fuel 29 cs=some x) :
  ∃(v:Value) (n:Nat) (a:Nat->Bool) (xs:Nat->List Nat),cs = [v]∧n<=9223372036854775807∧Rw 2 (fun i w v=>KR w v (a i) (xs i)) n W v:=by
 rcases Deep.open_slice Try.underlying29 hf with ⟨hcs,_⟩ | ⟨a,len,cap,m,n,D,Pl,hcs,_,hl,hm,hmm,_,hx⟩
 ·exact ⟨_,0,fun _=>false,fun _=>[],hcs,by omega,none,0,rfl,Nat.le_refl _,fun i hi=>by omega⟩
 ·simp only [if_true] at hmm
  have each:∀i,i<len->∃q:Bool×List Nat×List Value,q.2.2.length=2∧(∀(j:Nat) (u:Value),q.2.2[j]?=some u->W.cell? (a.add (i*2+j))=some u)∧KR W (.agg q.2.2.toArray) q.1 q.2.1:=fun i hi=>by
   obtain ⟨cs,h1,h2⟩:=hx i (by omega)
   rw [Try.cells24] at h1
   obtain ⟨_,hlen,hcell⟩:=World.cells?_some h1
   match cs,hlen with
   | [c0,c1],_=>
    obtain ⟨b,xs,rfl,h5,h6⟩:=zD h2
    refine ⟨(b,xs,[.bool b,c1]),rfl,fun j u hj=>?_,⟨_,rfl,h5,h6⟩⟩
    have hlt:=(List.getElem?_eq_some_iff.1 hj).1
    have e:=hcell j (by simpa using hlt)
    rw [Deep.add_add] at e
    rw [e]
    exact hj
  obtain ⟨q,hq⟩:=Deep.choose_lt each
  refine ⟨_,len,fun i=>(q i).1,fun i=>(q i).2.1,hcs,?_,some a,cap,rfl,hl,fun i hi=>?_⟩
  ·have:maxLen<=9223372036854775807:=by decide
   omega
  obtain ⟨h1,h2,h3⟩:=hq i hi
  obtain ⟨b,off,spot⟩:=a
  obtain ⟨g1,g2,-⟩:=hq 0 (by omega)
  have h0:=g2 0 ((q 0).2.2[0]'(by omega)) (List.getElem?_eq_getElem (by omega))
  have hspot:spot=none:=by simpa [Addr.add] using World.cell?_spot h0
  subst hspot
  refine ⟨b,off,rfl,(q i).2.2,h1,fun j u hj=>?_,h3⟩
  have:=h2 j u hj
  rw [Addr.add_lit] at this
  rw [Nat.add_assoc];exact this
theorem no {W:World}{base base':Nat}{held:Bool}{v:Value}{d:DataW H}{ps:List MemPlace}
  (h:DataW.Trod enc Try.prog W base (fun _=>true) held 22 v d ps) (hv:Value.okWide Try.prog W .any base' 22 v):∃(n:Nat) (m:Nat->Nat) (a:Nat->Nat->Bool) (xs:Nat->Nat->List Nat),(n<=9223372036854775807∧∀i,i<n->m i<=9223372036854775807)∧Rw 1 (bF a xs m) n W v:=by
 obtain ⟨a0,len,cap,rfl⟩:=okWide_slice Try.underlying22 hv
 obtain ⟨fuel,hf⟩:=h
 rcases Deep.open_slice Try.underlying22 hf with ⟨hcs,_⟩ | ⟨a,len',cap',m,n,D,Pl,hcs,_,hl,hm,hmm,_,hx⟩
 ·simp [Value.cells] at hcs
  obtain ⟨rfl,rfl,rfl⟩:=hcs
  exact ⟨0,fun _=>0,fun _ _=>false,fun _ _=>[],⟨by omega,fun _ _=>by omega⟩,none,0,rfl,Nat.le_refl _,fun i hi=>by omega⟩
 ·simp [Value.cells] at hcs
  obtain ⟨rfl,rfl,rfl⟩:=hcs
  simp only [if_true] at hmm
  have each:∀i,i<len->∃q:Value×Nat×(Nat->Bool)×(Nat->List Nat),W.cell? (a.add (i*1+0))=some q.1∧q.2.1<=9223372036854775807∧Rw 2 (fun j w v=>KR w v (q.2.2.1 j) (q.2.2.2 j)) q.2.1 W q.1:=fun i hi=>by
   obtain ⟨cs,h1,h2⟩:=hx i (by omega)
   rw [show Try.prog.cellsOf 29=1 by kernel_rfl] at h1
   obtain ⟨_,hlen,hcell⟩:=World.cells?_some h1
   obtain ⟨u,n',b',xs',rfl,h3,h4⟩:=zC h2
   have e:=hcell 0 (by simp)
   rw [Deep.add_add] at e
   exact ⟨(u,n',b',xs'),by rw [e];rfl,h3,h4⟩
  obtain ⟨q,hq⟩:=Deep.choose_lt each
  refine ⟨len,fun i=>(q i).2.1,fun i=>(q i).2.2.1,fun i=>(q i).2.2.2,⟨?_,fun i hi=>(hq i hi).2.1⟩,some a,cap,rfl,hl,fun i hi=>?_⟩
  ·have:maxLen<=9223372036854775807:=by decide
   omega
  obtain ⟨h1,h2,h3⟩:=hq i hi
  obtain ⟨b,off,spot⟩:=a
  obtain ⟨g1,-,-⟩:=hq 0 (by omega)
  have hspot:spot=none:=by simpa [Addr.add] using World.cell?_spot g1
  subst hspot
  refine ⟨b,off,rfl,[(q i).1],rfl,fun j u hj=>?_,⟨_,rfl,h3⟩⟩
  match j,hj with
  | 0,hj=>
   simp only [List.getElem?_cons_zero,Option.some.injEq] at hj
   subst hj
   rw [Addr.add_lit] at h1
   rw [Nat.add_assoc];exact h1
end
theorem eg {Φ:PH}{p n:Nat}{al:Nat->Nat->Bool}{xl:Nat->Nat->List Nat}{ml:Nat->Nat}{w:World}{v:Value} (h:Rw 1 (bF al xl ml) n w v) (hp:Φ p=Rw 1 (bF al xl ml) n:=by rfl):(Arg.fact p).ok Φ (fun _=>False) w v:=fun w1 hw=>by
 rw [hp]
 obtain ⟨p,c,rfl,hc,he⟩:=h
 refine ⟨p,c,rfl,hc,fun i hi=>?_⟩
 obtain ⟨b,off,rfl,l,h1,h2,s,h3,h4⟩:=he i hi
 refine ⟨b,off,rfl,l,h1,fun j u hj=>?_,s,h3,?_⟩
 ·have hc:=h2 j u hj
  rw [World.cell?_of_block (hw.2 b (World.block_lt_of_cell? _ _ hc) fun h=>h)];exact hc
 ·obtain ⟨p2,c2,rfl,hc2,he2⟩:=h4
  refine ⟨p2,c2,rfl,hc2,fun j hj=>?_⟩
  obtain ⟨b2,Ll,rfl,l2,g1,g2,g3⟩:=he2 j hj
  refine ⟨b2,Ll,rfl,l2,g1,fun j' u hj'=>?_,KR.kp g3 hw.1⟩
  have hc:=g2 j' u hj'
  rw [World.cell?_of_block (hw.2 b2 (World.block_lt_of_cell? _ _ hc) fun h=>h)];exact hc
theorem np {nl:Nat}{ml:Nat->Nat}{al:Nat->Nat->Bool}{xl:Nat->Nat->List Nat}{w:World}{vl:Value} (hnl:nl<=9223372036854775807∧∀i,i<nl->ml i<=9223372036854775807) (hll:Rw 1 (bF al xl ml) nl w vl) :
  ∃(gI:Nat->Nat) (z:Nat->Nat->Int) (ln:Nat->Nat),Rw 1 (bF al xl gI) nl w vl∧(∀q,gI q<=9223372036854775807)∧(∀q j,sg (al q j) (Proofs.Ytomamliepbhegaa.val 4294967296 ((xl q j).take 1))=z q j)∧(∀q,q<nl->min (gI q) 3=ln q)∧(∀q,¬q<nl->ln q=0)∧(∀q,ln q<=3)∧∀q,EOk 3 1 (ad (mk (ln q) (z q))):=by
 refine ⟨fun i=>if i<nl then ml i else 0,fun i j=>sg (al i j) (Proofs.Ytomamliepbhegaa.val 4294967296 ((xl i j).take 1)),fun i=>min (if i<nl then ml i else 0) 3,Rw.to hll fun i w v hi ⟨s,h1,h2⟩=>⟨s,h1,by show Rw 2 _ (if i<nl then ml i else 0) w s;rw [if_pos hi];exact h2⟩,fun q=>?_,fun _ _=>rfl,fun _ _=>rfl,fun q hq=>?_,fun q=>?_,fun q=>?_⟩
 ·show (if q<nl then ml q else 0)<=9223372036854775807
  split
  ·exact hnl.2 q (by assumption)
  ·omega
 ·show min (if q<nl then ml q else 0) 3=0
  rw [if_neg hq];rfl
 ·show min (if q<nl then ml q else 0) 3<=3
  omega
 ·refine zE (by show min (if q<nl then ml q else 0) 3<=3;omega) fun j hj=>?_
  have hj:j<min (if q<nl then ml q else 0) 3:=hj
  by_cases hi:q<nl
  ·rw [if_pos hi] at hj
   obtain ⟨p,c,rfl,_,he⟩:=hll
   obtain ⟨_,_,_,_,_,_,s,_,hR⟩:=he q hi
   obtain ⟨p2,c2,rfl,_,he2⟩:=hR
   obtain ⟨_,_,_,l,_,_,s,_,_,h2⟩:=he2 j (by omega)
   show Bd (sg (al q j) (Proofs.Ytomamliepbhegaa.val 4294967296 ((xl q j).take 1))).natAbs 1
   rw [Lf]
   exact Bd.row _ h2 1
  ·rw [if_neg hi] at hj;omega
end Go.Proofs.Ytomamliepbhegaa.dlaw
