/- Rows of polynomials that grow: a row of the call's own, whose elements lie elsewhere. -/
import Derived.Test.YtomamliepbhegaaPolL
namespace Go.Proofs.Ytomamliepbhegaa.Sym
open Go.RowKit
theorem Rw.own' {sz n:Nat}{F:PH}{w w1:World}{v:Value} (h:Rw sz F n w v) (hK:∀i w w1 v,Kp w w1->F i w v->F i w1 v) (k:Kp w w1) (hb:0<n->∀g,blk v=some g->w1.heap[g]?=w.heap[g]?):Rw sz F n w1 v:=by
 obtain ⟨p,c,rfl,hc,he⟩:=h
 refine ⟨p,c,rfl,hc,fun i hi=>?_⟩
 obtain ⟨b,off,rfl,l,h1,h2,h3⟩:=he i hi
 refine ⟨b,off,rfl,l,h1,fun j u hj=>?_,hK _ _ _ _ k h3⟩
 rw [World.cell?_of_block (hb (by omega) b rfl)];exact h2 j u hj
def Ju (b:Option Nat) (zz:Nat->Nat->Int) (ln:Nat->Nat) (k:Nat) (i:Nat) (w:World) (v:Value):Prop:=∃s,v = .agg #[s]∧Rw 2 (fun j w v=>aB w v (zz i j) k) (ln i) w s∧(0<ln i->∀g,blk s=some g->b≠some g)
def Lu (e:TypeId) (zz:Nat->Nat->Int) (ln:Nat->Nat) (k n:Nat) (w:World) (v:Value):Prop:=aC 1 e (Ju (blk v) zz ln k) n w v
section
variable {e:TypeId}{zz:Nat->Nat->Int}{ln:Nat->Nat}{k n:Nat}{w:World}{v y:Value}{X:Nat->Prop}
theorem Lu.rw (h:Lu e zz ln k n w v):Rw 1 (EI zz ln k) n w v:=Rw.to (sz:=1) (aC.rw h) fun _ _ _ _ ⟨s,e,h,_⟩=>⟨s,e,h⟩
theorem Lu.nil (e:TypeId) (zz:Nat->Nat->Int) (ln:Nat->Nat) (k:Nat) (w:World):Lu e zz ln k 0 w (.slice none 0 0):=aC.nil _ _ _ _
theorem Lu.is (h:Lu e zz ln k n w v):(bn.one .s).is v:=by
 obtain ⟨p,c,rfl,_⟩:=h.rw
 exact ⟨⟨_,_,_,rfl⟩,fun _ h=>by cases h⟩
end
end Go.Proofs.Ytomamliepbhegaa.Sym
