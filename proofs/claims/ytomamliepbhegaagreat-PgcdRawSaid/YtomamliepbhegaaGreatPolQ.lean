/- Cut -/
import Derived.Test.YtomamliepbhegaaGreatPolX
import Derived.Test.YtomamliepbhegaaGreatRatL
import Derived.Deep.Slices
namespace Go.Proofs.YtomamliepbhegaaGreat.Sym
open Go.RowKit Go.ChangeShapes Go.WideShapes Go.ChangeAt
variable {v:Value}
section
variable {Φ:PH}{p x y n n0:Nat}{z:Nat->Int}
end
set_option maxRecDepth 100000 in
theorem wz {H:Type}{enc:TypeId×Value->H}{W:World}{base base':Nat}{held:Bool}{d:DataW H}{ps:List MemPlace}
  (h:DataW.Trod enc Tryz.prog W base (fun _=>true) held 28 v d ps) (hv:Value.okWide Tryz.prog W .any base' 28 v):∃(n:Nat) (a:Nat->Bool) (xs:Nat->List Nat),n<=9223372036854775807∧Rw 2 (fun i w v=>aT w v (a i) (xs i)) n W v:=by
 obtain ⟨a0,len,cap,rfl⟩:=okWide_slice Tryz.underlying28 hv
 obtain ⟨fuel,hf⟩:=h
 rcases Deep.open_slice Tryz.underlying28 hf with ⟨hcs,_⟩ | ⟨a,len',cap',m,n,D,Pl,hcs,_,hl,hm,hmm,_,hx⟩
 ·simp [Value.cells] at hcs
  obtain ⟨rfl,rfl,rfl⟩:=hcs
  exact ⟨0,fun _=>false,fun _=>[],by omega,none,0,rfl,Nat.le_refl _,fun i hi=>by omega⟩
 ·simp [Value.cells] at hcs
  obtain ⟨rfl,rfl,rfl⟩:=hcs
  simp only [if_true] at hmm
  have each:∀i,i<len->∃q:Bool×List Nat×List Value,q.2.2.length=2∧(∀(j:Nat) (u:Value),q.2.2[j]?=some u->W.cell? (a.add (i*2+j))=some u)∧aT W (.agg q.2.2.toArray) q.1 q.2.1:=fun i hi=>by
   obtain ⟨cs,h1,h2⟩:=hx i (by omega)
   rw [Tryz.cells24] at h1
   obtain ⟨_,hlen,hcell⟩:=World.cells?_some h1
   match cs,hlen with
   | [c0,c1],_=>
    obtain ⟨b,xs,rfl,h5,h6⟩:=aau h2
    refine ⟨(b,xs,[.bool b,c1]),rfl,fun j u hj=>?_,⟨_,rfl,h5,h6⟩⟩
    have hlt:=(List.getElem?_eq_some_iff.1 hj).1
    have e:=hcell j (by simpa using hlt)
    rw [Deep.add_add] at e
    rw [e]
    exact hj
  obtain ⟨q,hq⟩:=Deep.choose_lt each
  refine ⟨len,fun i=>(q i).1,fun i=>(q i).2.1,?_,some a,cap,rfl,hl,fun i hi=>?_⟩
  ·have:maxLen<=9223372036854775807:=by decide
   omega
  obtain ⟨h1,h2,h3⟩:=hq i hi
  obtain ⟨b,off,spot⟩:=a
  obtain ⟨g1,g2,-⟩:=hq 0 (by omega)
  have h0:=g2 0 ((q 0).2.2[0]'(by omega)) (List.getElem?_eq_getElem (by omega))
  have hspot:spot=none:=by simpa [Addr.add] using World.cell?_spot h0
  subst hspot
  refine ⟨b,off,rfl,(q i).2.2,h1,fun j u hj=>?_,h3⟩
  have:=h2 j u hj
  rw [Addr.add_lit] at this
  rw [Nat.add_assoc];exact this
theorem oz {Φ:PH}{p n:Nat}{a:Nat->Bool}{xs:Nat->List Nat}{w:World} (h:Rw 2 (fun i w v=>aT w v (a i) (xs i)) n w v) (hp:Φ p=fun w v=>Rw 2 (fun i w v=>aT w v (a i) (xs i)) n w v:=by rfl):(Arg.fact p).ok Φ (fun _=>False) w v:=
 Rw.arg (F:=fun i w v=>aT w v (a i) (xs i)) (fun _ _ _ _ g h=>aT.kp h g) h hp (fun _ h=>h.elim)
end Go.Proofs.YtomamliepbhegaaGreat.Sym
