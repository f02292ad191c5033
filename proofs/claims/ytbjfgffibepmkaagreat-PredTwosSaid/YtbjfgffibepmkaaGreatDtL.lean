/- The reference's minors a -/
import Derived.Test.YtbjfgffibepmkaaGreatDtP
import Derived.Test.YtbjfgffibepmkaaGreatCatN
import Derived.Test.YtbjfgffibepmkaaGreatCurW
namespace Go.Proofs.YtbjfgffibepmkaaGreat.Sym
open Go.RowKit
variable {Φ:PH}{x:Nat}
section
variable {p q r n m K i k:Nat}{M:Nat->Nat->List Int}
end
theorem tz {c k:Nat} (hc:c<=100) (hk:k<=100):∀n,n<=4->bD c k n<=1+210*n
 | 0,_=>Nat.le_refl 1
 | n+1,h=>by
  have:=tz hc hk n (by omega)
  rw [bD]
  omega
def bT (z:Nat->Nat->Int) (ln:Nat->Nat) (K k:Nat) (w:World) (v:Value):Prop:=Rw 2 (If (z k) K) (ln k) w v
def bh (z:Nat->Nat->Nat->Int) (ln:Nat->Nat->Nat) (m K i:Nat) (w:World) (v:Value):Prop:=Rw 1 (aw (bT (z i) (ln i) K)) m w v
theorem slI (z:Nat->Nat->Int) (ln:Nat->Nat) (K k:Nat) (w:World) (s:Value) (h:bT z ln K k w s):∃p n c,s = .slice p n c:=dE h
theorem iJ (z:Nat->Nat->Nat->Int) (ln:Nat->Nat->Nat) (m K i:Nat) (w:World) (s:Value) (h:bh z ln m K i w s):∃p n c,s = .slice p n c:=dE h
theorem qj (z:Nat->Nat->Int) (ln:Nat->Nat) (K k:Nat):dm (bT z ln K k):=xi (z0:=.slice none 0 0) (fun _ _ _ _ g h=>aF.kp h g) fun i w l h hl=>by
 obtain ⟨b,s,X,e,-⟩:=h
 obtain rfl:l = [.bool b,s]:=by simpa using e
 exact ⟨_,rfl,fun h=>by (cases h),fun _ _ h=>by cases h⟩
theorem gj (z:Nat->Nat->Nat->Int) (ln:Nat->Nat->Nat) (m K i:Nat):dm (bh z ln m K i):=xj (slI _ _ _) (qj _ _ _)
theorem kP {P:Program}{f y i:Nat}{ls:List Arg}{F:PH} (h:aj Φ P ⟨f,ls,[oS x],false⟩) (hy:Φ y=aw F i) (hF:∀w v,Φ x w v->F i w v):aj Φ P ⟨f,ls,[⟨.one .s,[(0,0,x),(0,2,y)]⟩],false⟩:=fun X w vs hX ha=>(h X w vs hX ha).mono fun e w' ⟨g,us,he,ho⟩=>⟨g,us,he,by
 match us,ho with
 | [u],⟨⟨h3,h4⟩,h5⟩=>
  refine ⟨⟨h3,fun q hq w1 hw=>?_⟩,h5⟩
  simp only [List.mem_cons,List.not_mem_nil,or_false] at hq
  rcases hq with rfl | rfl
  ·exact h4 _ (List.mem_singleton.2 rfl) w1 hw
  ·obtain ⟨⟨p,n,c,rfl⟩,-⟩:=h3
   show Φ y w1 _
   rw [hy]
   exact ⟨_,rfl,hF _ _ (h4 (0,0,x) (List.mem_singleton.2 rfl) w1 hw)⟩⟩
theorem qk {a:Atom}{G:WP} (hx:Φ x=G) (h:∀w,G w (a.ev cV)) (X:Nat->Prop) (w:World) (v:Value) (hv:(Arg.parts (.one (.lit a)) []).ok Φ X w v):(Arg.fact x).ok Φ X w v:=fun w1 _=>by
 rw [hx]
 obtain ⟨h1,-⟩:=hv
 obtain rfl:v=a.ev cV:=h1.1
 exact h w1
section
variable {p n0 n:Nat}{z:Nat->Int}
end
section
variable {p q r y nl n m:Nat}{al:Nat->Nat->Bool}{xl:Nat->Nat->List Nat}{ml ln:Nat->Nat}{z:Nat->Nat->Int}
end
end Go.Proofs.YtbjfgffibepmkaaGreat.Sym
namespace Go.Proofs.YtbjfgffibepmkaaGreat.dlaw
open Go.ChangeShapes Go.WideShapes Go.ChangeAt Go.RowKit
open Go.Proofs.YtbjfgffibepmkaaGreat.Sym hiding val run start
section
variable {H:Type}{enc:TypeId×Value->H}
set_option maxRecDepth 100000 in
theorem sV {W:World}{base:Nat}{held:Bool}{fuel:Nat}{cs:List Value}{x:DataW H×List MemPlace} (hf:DataW.trod enc Tryz.prog W base (fun _=>true) held fuel 24 cs=some x) :
  ∃(v:Value) (n:Nat) (a:Nat->Bool) (xs:Nat->List Nat),cs = [v]∧n<=9223372036854775807∧Rw 2 (fun i w v=>aH w v (a i) (xs i)) n W v:=by
 rcases Deep.open_slice Tryz.underlying24 hf with ⟨hcs,_⟩ | ⟨a,len,cap,m,n,D,Pl,hcs,_,hl,hm,hmm,_,hx⟩
 ·exact ⟨_,0,fun _=>false,fun _=>[],hcs,by omega,none,0,rfl,Nat.le_refl _,fun i hi=>by omega⟩
 ·simp only [if_true] at hmm
  have each:∀i,i<len->∃q:Bool×List Nat×List Value,q.2.2.length=2∧(∀(j:Nat) (u:Value),q.2.2[j]?=some u->W.cell? (a.add (i*2+j))=some u)∧aH W (.agg q.2.2.toArray) q.1 q.2.1:=fun i hi=>by
   obtain ⟨cs,h1,h2⟩:=hx i (by omega)
   rw [Tryz.cells24] at h1
   obtain ⟨_,hlen,hcell⟩:=World.cells?_some h1
   match cs,hlen with
   | [c0,c1],_=>
    obtain ⟨b,xs,rfl,h5,h6⟩:=sW h2
    refine ⟨(b,xs,[.bool b,c1]),rfl,fun j u hj=>?_,⟨_,rfl,h5,h6⟩⟩
    have hlt:=(List.getElem?_eq_some_iff.1 hj).1
    have e:=hcell j (by simpa using hlt)
    rw [Deep.add_add] at e
    rw [e]
    exact hj
  obtain ⟨q,hq⟩:=Deep.choose_lt each
  refine ⟨_,len,fun i=>(q i).1,fun i=>(q i).2.1,hcs,?_,some a,cap,rfl,hl,fun i hi=>?_⟩
  ·have:maxLen<=9223372036854775807:=by decide
   omega
  obtain ⟨h1,h2,h3⟩:=hq i hi
  obtain ⟨b,off,spot⟩:=a
  obtain ⟨g1,g2,-⟩:=hq 0 (by omega)
  have h0:=g2 0 ((q 0).2.2[0]'(by omega)) (List.getElem?_eq_getElem (by omega))
  have hspot:spot=none:=by simpa [Addr.add] using World.cell?_spot h0
  subst hspot
  refine ⟨b,off,rfl,(q i).2.2,h1,fun j u hj=>?_,h3⟩
  have:=h2 j u hj
  rw [Addr.add_lit] at this
  rw [Nat.add_assoc];exact this
end
end Go.Proofs.YtbjfgffibepmkaaGreat.dlaw
