/- keep.Within by a number -/
import Derived.Test.YtbjfgffibepmkaaGreatDtW
namespace Go.Proofs.YtbjfgffibepmkaaGreat.Sym
open Go.RowKit
end Go.Proofs.YtbjfgffibepmkaaGreat.Sym
namespace Go.Proofs.YtbjfgffibepmkaaGreat.dlaw
open Go.ChangeShapes Go.WideShapes Go.ChangeAt Go.RowKit
open Go.Proofs.YtbjfgffibepmkaaGreat.Sym hiding val run start
section
variable {H:Type}{enc:TypeId×Value->H}
set_option maxRecDepth 100000 in
theorem sV {W:World}{base:Nat}{held:Bool}{fuel:Nat}{cs:List Value}{x:DataW H×List MemPlace} (hf:DataW.trod enc Tryz.prog W base (fun _=>true) held fuel 24 cs=some x) :
  ∃(v:Value) (n:Nat) (a:Nat->Bool) (xs:Nat->List Nat),cs = [v]∧n<=9223372036854775807∧Rw 2 (fun i w v=>aH w v (a i) (xs i)) n W v:=by
 rcases Deep.open_slice Tryz.underlying24 hf with ⟨hcs,_⟩ | ⟨a,len,cap,m,n,D,Pl,hcs,_,hl,hm,hmm,_,hx⟩
 ·exact ⟨_,0,fun _=>false,fun _=>[],hcs,by omega,none,0,rfl,Nat.le_refl _,fun i hi=>by omega⟩
 ·simp only [if_true] at hmm
  have each:∀i,i<len->∃q:Bool×List Nat×List Value,q.2.2.length=2∧(∀(j:Nat) (u:Value),q.2.2[j]?=some u->W.cell? (a.add (i*2+j))=some u)∧aH W (.agg q.2.2.toArray) q.1 q.2.1:=fun i hi=>by
   obtain ⟨cs,h1,h2⟩:=hx i (by omega)
   rw [Tryz.cells24] at h1
   obtain ⟨_,hlen,hcell⟩:=World.cells?_some h1
   match cs,hlen with
   | [c0,c1],_=>
    obtain ⟨b,xs,rfl,h5,h6⟩:=sW h2
    refine ⟨(b,xs,[.bool b,c1]),rfl,fun j u hj=>?_,⟨_,rfl,h5,h6⟩⟩
    have hlt:=(List.getElem?_eq_some_iff.1 hj).1
    have e:=hcell j (by simpa using hlt)
    rw [Deep.add_add] at e
    rw [e]
    exact hj
  obtain ⟨q,hq⟩:=Deep.choose_lt each
  refine ⟨_,len,fun i=>(q i).1,fun i=>(q i).2.1,hcs,?_,some a,cap,rfl,hl,fun i hi=>?_⟩
  ·have:maxLen<=9223372036854775807:=by decide
   omega
  obtain ⟨h1,h2,h3⟩:=hq i hi
  obtain ⟨b,off,spot⟩:=a
  obtain ⟨g1,g2,-⟩:=hq 0 (by omega)
  have h0:=g2 0 ((q 0).2.2[0]'(by omega)) (List.getElem?_eq_getElem (by omega))
  have hspot:spot=none:=by simpa [Addr.add] using World.cell?_spot h0
  subst hspot
  refine ⟨b,off,rfl,(q i).2.2,h1,fun j u hj=>?_,h3⟩
  have:=h2 j u hj
  rw [Addr.add_lit] at this
  rw [Nat.add_assoc];exact this
end
end Go.Proofs.YtbjfgffibepmkaaGreat.dlaw
