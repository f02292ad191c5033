/- Rows of values of one ce -/
import Derived.Test.YtbjfgffibepmkaaGreatPolH
namespace Go.Proofs.YtbjfgffibepmkaaGreat.Sym
open Go.RowKit
variable {w:World}{v:Value}
def cu (T:TypeId) (n:Nat):Op->Option (List Operand)
 | .buildSlice t l parts=>if t=T∧l=n∧parts.toList.map (·.1)=List.range n then some (.const (.int .i64 0) :: parts.toList.map (·.2)) else none
 | _=>none
theorem Cg {α β γ:Type} (f:β->γ):∀{l:List (α×β)}{r:List α},l.map (·.1)=r->l.map (fun q=>(q.1,f q.2))=r.zip ((l.map (·.2)).map f)
 | [],r,h=>by subst h;rfl
 | (a,b) :: l,r,h=>by
  subst h
  simp only [List.map_cons,List.zip_cons_cons]
  rw [Cg f (l:=l) rfl]
section
variable {P:Program}{Φ:PH}{x j n:Nat}{F:PH}
theorem Cf {X:Nat->Prop}{w:World}:∀{ps:List Nat}{vs:List Value},cQ Φ X w (ps.map Arg.fact) vs->vs.length=ps.length∧∀(i p:Nat) (v:Value),ps[i]?=some p->vs[i]?=some v->∀w1,Off X w w1->Φ p w1 v
 | [],[],_=>⟨rfl,fun i p v h=>by simp at h⟩
 | p :: ps,v :: vs,h=>by
  obtain ⟨h1,h2⟩:=Cf h.2
  refine ⟨by simp [h1],fun i q u hq hu=>?_⟩
  cases i with
  | zero=>
   simp only [List.getElem?_cons_zero,Option.some.injEq] at hq hu
   subst hq hu;exact h.1
  | succ i=>exact h2 i q u (by simpa using hq) (by simpa using hu)
 | [],_ :: _,h=>h.elim
 | _ :: _,[],h=>h.elim
end
theorem xo {F:WP}{X:Nat->Prop} (A:∀w1,Off X w w1->Ptr 1 F w1 v) (hF:∀w u,F w (.agg #[u])->∃p n c,u = .slice p n c):∃b o u,v = .pointer (some ⟨b,o,none⟩)∧¬X b∧w.cell? ⟨b,o,none⟩=some u:=by
 obtain ⟨b,o,rfl,l,h1,h2,h3⟩:=A w (Off.refl _ _)
 obtain ⟨u,rfl⟩:∃u,l = [u]:=by
  match l,h1 with
  | [u],_=>exact ⟨u,rfl⟩
 have hc:=h2 0 u rfl
 rw [Nat.add_zero] at hc
 obtain ⟨p,n,c,rfl⟩:=hF w u h3
 refine ⟨b,o,_,rfl,fun hX=>?_,hc⟩
 have hg:w.grownBy (w.setCells b o [.bool false]) (some b):=iw b _ _ _
 have hgr:w.grownBy (w.setCell ⟨b,o,none⟩ (.bool false)) (some b):=hg
 have hoff:Off X w (w.setCell ⟨b,o,none⟩ (.bool false)):=by
  refine ⟨⟨hgr.size,fun a k n _ ha=>?_⟩,fun k hk hn=>hgr.block k hk fun e=>?_⟩
  ·rw [World.cell?_setCell_other _ _ _ _ (fun e=>by rw [<- e,hc] at ha;cases ha)]
   exact ha
  ·obtain rfl:k=b:=Option.some.inj e
   exact hn hX
 obtain ⟨b',o',e,l',h1',h2',h3'⟩:=A _ hoff
 simp only [Value.pointer.injEq,Option.some.injEq,Addr.mk.injEq] at e
 obtain ⟨rfl,rfl,_⟩:=e
 obtain ⟨u',rfl⟩:∃u,l' = [u]:=by
  match l',h1' with
  | [u],_=>exact ⟨u,rfl⟩
 have hc':=h2' 0 u' rfl
 rw [Nat.add_zero,World.cell?_setCell_same _ _ _ hc] at hc'
 obtain ⟨_,_,_,e⟩:=hF _ u' h3'
 rw [e] at hc'
 cases hc'
section
variable {P:Program}{Φ:PH}{p x:Nat}
theorem fi {T:TypeId}{G:WP} (hp:∀w v,Φ p w v->Ptr 1 (fun w u=>∃s,u = .agg #[s]∧G w s) w v) (hG:∀w s,G w s->∃p n c,s = .slice p n c) (hx:Φ x=G) (hT:gC P T=some false:=by kernel_rfl):aj Φ P ⟨0,[.fact p],[oS x],.quiet (aO T)⟩:=fun X w ac o xs _ hm ha=>by
 unfold aO at hm
 split at hm
 case h_2=>cases hm
 rename_i t y ho
 split at hm
 case isFalse=>cases hm
 rename_i ht
 subst ht
 simp only [Option.some.injEq] at hm
 subst hm
 have A:∀w1,Off X w w1->Ptr 1 (fun w u=>∃s,u = .agg #[s]∧G w s) w1 (ac.eval y):=fun w1 hw=>hp _ _ (ha.1 w1 hw)
 obtain ⟨b,off,u,hv,hX,hc⟩:=xo A (fun w u ⟨s,e,hs⟩=>by
  obtain rfl:u=s:=by simpa using e
  exact hG w u hs)
 have key:∀w1,Off X w w1->G w1 u:=fun w1 hw=>by
  obtain ⟨b',o',e,l',h1',h2',s,h3',h4⟩:=A w1 hw
  rw [hv] at e
  simp only [Value.pointer.injEq,Option.some.injEq,Addr.mk.injEq] at e
  obtain ⟨rfl,rfl,_⟩:=e
  obtain rfl:l' = [s]:=by simpa using h3'
  have hc':=h2' 0 s rfl
  rw [Nat.add_zero,World.cell?_of_block (hw.2 b (World.block_lt_of_cell? _ _ hc) hX),hc] at hc'
  obtain rfl:=Option.some.inj hc'
  exact h4
 obtain ⟨p',n',c',rfl⟩:=hG _ _ (key w (Off.refl _ _))
 refine ⟨_,w,?_,bt w none,cP ⟨⟨_,_,_,rfl⟩,fun _ h=>by cases h⟩ hx key⟩
 unfold execOp
 simp [ho,hv,Instr.loadAt,Instr.sureAddr,loadVar,gD hT,hc]
end
def gU (zz:Nat->Nat->Int) (ln:Nat->Nat) (k:Nat) (i:Nat) (w:World) (v:Value):Prop:=∃s,v = .agg #[s]∧Rw 2 (fun j w v=>aF w v (zz i j) k) (ln i) w s
section
variable {Φ:PH}{p p0 p1 p2 x j k n0 n1 n2:Nat}{z0 z1 z2:Nat->Int}
theorem xQ {n:Nat}{z:Nat->Int} (h:Rw 2 (If z k) n w v):v.cells = #[v]:=by
 obtain ⟨p,c,rfl,_⟩:=h;rfl
theorem ef {a:Int} (hx:Φ x=Ni a) (X:Nat->Prop) (w:World) (v:Value) (h:(Arg.parts (.one (.lit (.ci .i64 a))) []).ok Φ X w v):(Arg.fact x).ok Φ X w v:=fun w1 _=>by
 rw [hx]
 exact h.1.1
end
end Go.Proofs.YtbjfgffibepmkaaGreat.Sym
