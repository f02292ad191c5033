/- Straight pieces of Go, w -/
import Derived.Test.YtbjfgffibepmkaaGreatPolA
import Derived.Laws.Tables
import Derived.Laws.IdiomCopy
import Derived.IntWalk
import Derived.LoopN
namespace Go.Proofs.YtbjfgffibepmkaaGreat.Sym
open Go.RowKit
variable {J' js:List Nat}{X Y:Nat->Prop}{b i ix j k n p sz:Nat}{a:Act}{c:Call}{W w w':World}{d:Option Tmp}{r:Option Nat}{F Φ Ψ:Nat->World->Value->Prop}{α β:Type}{u v:Value}{xs:List Operand}{T e t:TypeId}{x x0 x1:Operand}{o:Oper}{f:FuncId}{op:BinOp}{K:Act->World->Prop}{m:Op->Option (List Operand)}{Q:Exit->Act->World->Prop}
inductive Atom where
 | b (k c:Nat) | s (k c:Nat) | i (k c:Nat) | t (k c:Nat) | p (k c:Nat) | nk (k c:Nat) | fv (k c:Nat)
 | cb (v:Bool) | ci (k:IntKind) (z:Int) | nl | un | cs (l:List UInt8) | fn (f:FuncId)
 | ptr (k o:Nat) | row (k n:Nat)
 deriving Inhabited
inductive C where
 | one (a:Atom) | agg (l:List Atom)
 deriving Inhabited
inductive SV where
 | c (x:C) | bz (l:List C)
 deriving Inhabited
structure Env where
 b:Nat->Nat->Bool
 s:Nat->Nat->Option Addr×Nat×Nat
 i:Nat->Nat->Int
 t:Nat->Nat->ByteArray
 p:Nat->Nat->Option Addr
 nk:Nat->Nat->IntKind×Int
 g:Nat->Option Nat
 o:Nat->Nat->Prop
 v:Nat->Nat->FuncId×Array Value
def cV:Env:=⟨fun _ _=>false,fun _ _=>(none,0,0),fun _ _=>0,fun _ _=>⟨#[]⟩,fun _ _=>none,fun _ _=>(.i64,0),fun _=>none,fun _ _=>False,fun _ _=>(0,#[])⟩
def Atom.ev (ρ:Env):Atom->Value
 | .b k c=>.bool (ρ.b k c)
 | .s k c=>.slice (ρ.s k c).1 (ρ.s k c).2.1 (ρ.s k c).2.2
 | .i k c=>.int .i64 (ρ.i k c)
 | .t k c=>.string (ρ.t k c)
 | .p k c=>.pointer (ρ.p k c)
 | .nk k c=>.int (ρ.nk k c).1 (ρ.nk k c).2
 | .cb v=>.bool v
 | .ci k z=>.int k z
 | .nl=>.slice none 0 0
 | .un=>undef
 | .cs l=>.string ⟨l.toArray⟩
 | .fn f=>.func (.func f) #[] #[]
 | .fv k c=>.func (.func (ρ.v k c).1) #[] (ρ.v k c).2
 | .ptr k o=>.pointer (some ⟨(ρ.g k).getD 0,o,none⟩)
 | .row k n=>.slice (some ⟨(ρ.g k).getD 0,0,none⟩) n n
def C.ev (ρ:Env):C->Value
 | .one a=>a.ev ρ
 | .agg l=>.agg (l.map (Atom.ev ρ)).toArray
def SV.ev (ρ:Env):SV->Value
 | .c x=>x.ev ρ
 | .bz l=>.tuple (l.map (C.ev ρ)).toArray
def C.cells:C->List Atom
 | .one a=>[a]
 | .agg l=>l
def Atom.st:Atom->Option Nat
 | .b k _ | .s k _ | .i k _ | .t k _ | .p k _ | .nk k _ | .fv k _ | .ptr k _ | .row k _=>some k
 | _=>none
def C.sts (x:C):List Nat:=x.cells.filterMap Atom.st
def SV.sts:SV->List Nat
 | .c x=>x.sts
 | .bz l=>l.flatMap C.sts
def Atom.still:Atom->Bool
 | .i _ _ | .nk _ _ | .ci _ _ | .un=>false
 | _=>true
def Atom.vZ:Atom->Bool
 | .un=>false
 | _=>true
def Atom.beq:Atom->Atom->Bool
 | .b k c,.b k' c' | .s k c,.s k' c' | .i k c,.i k' c' | .t k c,.t k' c' | .p k c,.p k' c' | .nk k c,.nk k' c' | .fv k c,.fv k' c' | .ptr k c,.ptr k' c' | .row k c,.row k' c'=>k == k' && c == c'
 | .cb v,.cb v'=>v == v'
 | .ci k z,.ci k' z'=>k == k' && z == z'
 | .nl,.nl | .un,.un=>true
 | .cs l,.cs l'=>l == l'
 | .fn f,.fn f'=>f == f'
 | _,_=>false
theorem Atom.dN {x y:Atom} (h:x.beq y=true):x=y:=by
 cases x <;> cases y <;> simp_all [Atom.beq]
variable {a0 z:Atom}{ats cs:List Atom}
def lp {α:Type} (f:α->α->Bool):List α->List α->Bool
 | [],[]=>true
 | x :: xs,y :: ys=>f x y && lp f xs ys
 | _,_=>false
theorem wa {α:Type}{f:α->α->Bool} (hf:∀x y,f x y=true->x=y):∀{xs ys:List α},lp f xs ys=true->xs=ys
 | [],[],_=>rfl
 | x :: xs,y :: ys,h=>by
  simp only [lp,Bool.and_eq_true] at h
  rw [hf _ _ h.1,wa hf h.2]
 | [],_ :: _,h=>by simp [lp] at h
 | _ :: _,[],h=>by simp [lp] at h
def C.beq:C->C->Bool
 | .one a,.one b=>a.beq b
 | .agg l,.agg m=>lp Atom.beq l m
 | _,_=>false
theorem C.dN {x y:C} (h:x.beq y=true):x=y:=by
 cases x <;> cases y <;> simp only [C.beq,Bool.false_eq_true] at h
 ·rw [Atom.dN h]
 ·rw [wa (fun _ _=>Atom.dN) h]
def SV.beq:SV->SV->Bool
 | .c x,.c y=>x.beq y
 | .bz l,.bz m=>lp C.beq l m
 | _,_=>false
theorem SV.dN {x y:SV} (h:x.beq y=true):x=y:=by
 cases x <;> cases y <;> simp only [SV.beq,Bool.false_eq_true] at h
 ·rw [C.dN h]
 ·rw [wa (fun _ _=>C.dN) h]
inductive It where
 | slot (t:Nat) (v:SV) | cell (k o:Nat) (a:Atom) | fact (x:C) (p:Nat) | held (J:List Nat) (x:C) (p:Nat) | lo (j:Nat) (a:Atom) | dV (J:List Nat) (a:Atom)
 deriving Inhabited
def It.beq:It->It->Bool
 | .slot t v,.slot u w=>t == u && v.beq w
 | .cell k o a,.cell k' o' a'=>k == k' && o == o' && a.beq a'
 | .fact x p,.fact y q=>p == q && x.beq y
 | .held J x p,.held J' y q=>J == J' && (p == q && x.beq y)
 | .lo j a,.lo j' a'=>j == j' && a.beq a'
 | .dV J a,.dV J' a'=>J == J' && a.beq a'
 | _,_=>false
theorem It.dN {x y:It} (h:x.beq y=true):x=y:=by
 cases x <;> cases y <;> simp only [It.beq,Bool.false_eq_true,Bool.and_eq_true,beq_iff_eq] at h
 ·rw [h.1,SV.dN h.2]
 ·rw [h.1.1,h.1.2,Atom.dN h.2]
 ·rw [h.1,C.dN h.2]
 ·rw [h.1,h.2.1,C.dN h.2.2]
 ·rw [h.1,Atom.dN h.2]
 ·rw [h.1,Atom.dN h.2]
def It.sts:It->List Nat
 | .slot _ v=>v.sts
 | .cell k _ a=>k :: a.st.toList
 | .fact x _=>x.sts
 | .held _ x _=>x.sts
 | .lo _ a=>a.st.toList
 | .dV _ a=>a.st.toList
inductive Key where
 | slot (t:Nat) | cell (k o:Nat) | loose (j:Nat) | box (k:Nat) | EM (j:Nat) (a:Atom)
variable {kill:List Key}
def It.hit:It->Key->Bool
 | .slot t _,.slot u=>t == u
 | .cell k o _,.cell k' o'=>k == k' && o == o'
 | .held J _ _,.loose j=>J.contains j
 | .cell k _ _,.box k'=>k == k'
 | .lo k b,.EM j a=>k == j && !b.beq a
 | .dV J _,.EM j _=>J.contains j
 | _,_=>false
def Off (X:Nat->Prop) (w w':World):Prop:=Kp w w'∧∀k,k<w.heap.size->¬X k->w'.heap[k]?=w.heap[k]?
def cf (J:List Nat) (X:Nat->Prop) (ρ:Env) (k:Nat):Prop:=X k∨(∃j,ρ.g j=some k)∨∃j,j ∉ J∧ρ.o j k
abbrev Own (X:Nat->Prop) (ρ:Env) (k:Nat):Prop:=cf [] X ρ k
theorem cf.less {J:List Nat}{ρ:Env} (h:cf J X ρ k) (hJ:∀j,j ∈ J'->j ∈ J):cf J' X ρ k:=
 h.elim .inl fun h=>.inr (h.elim .inl fun ⟨j,h1,h2⟩=>.inr ⟨j,fun h=>h1 (hJ j h),h2⟩)
theorem cf.own {J:List Nat}{ρ:Env} (h:cf J X ρ k):Own X ρ k:=h.less fun _ h=>by cases h
def blk:Value->Option Nat
 | .slice (some p) _ _=>some p.block
 | _=>none
theorem Off.refl (X:Nat->Prop) (w:World):Off X w w:=⟨Kp.refl w,fun _ _ _=>rfl⟩
theorem Off.trans {a b c:World} (h:Off X a b) (k:Off Y b c) (hs:∀m,m<a.heap.size->Y m->X m):Off X a c:=
 ⟨h.1.trans k.1,fun m hm hx=>(k.2 m (Nat.lt_of_lt_of_le hm h.1.1) (fun y=>hx (hs m hm y))).trans (h.2 m hm hx)⟩
theorem Off.grown  (g:w.grownBy w' none):Off X w w':=⟨Kp.of g,fun k hk _=>g.block k hk (by simp)⟩
theorem Off.wide {a b:World} (h:Off X a b) (hs:∀m,X m->Y m):Off Y a b:=⟨h.1,fun m hm hy=>h.2 m hm (fun x=>hy (hs m x))⟩
section
variable (Φ:Nat->World->Value->Prop)(X:Nat->Prop)
def It.holds (ρ:Env) (a:Act) (w:World):It->Prop
 | .slot t v=>a.tmps[t]?=some (v.ev ρ)
 | .cell k o x=>∃g,ρ.g k=some g∧w.cell? ⟨g,o,none⟩=some (x.ev ρ)∧w.frozen? ⟨g,o,none⟩=false
 | .fact x p=>∀w',Off (Own X ρ) w w'->Φ p w' (x.ev ρ)
 | .held J x p=>∀w',Off (cf J X ρ) w w'->Φ p w' (x.ev ρ)
 | .lo j x=>∀g,blk (x.ev ρ)=some g->ρ.o j g
 | .dV J x=>∀g,blk (x.ev ρ)=some g->∃j,j ∈ J∧ρ.o j g
end
structure Good (X:Nat->Prop) (W:World) (n:Nat) (ρ:Env) (a:Act) (w:World):Prop where
 defers:a.defers = []
 size:a.tmps.size=n
 grown:W.grownBy w none
 inj:∀j k g,ρ.g j=some g->ρ.g k=some g->j=k
 lo:∀k g,ρ.g k=some g->W.heap.size<=g∧g<w.heap.size
 old:∀k,X k->k<W.heap.size
 loose:∀j k,ρ.o j k->W.heap.size<=k∧k<w.heap.size
 apart:∀i j k,ρ.g j=some k->¬ρ.o i k
 one:∀i j k,ρ.o i k->ρ.o j k->i=j
 far:W.drawn<=w.heap.size∧∀j k,2<=j->ρ.o j k->W.drawn<=k
theorem EN {d:Nat} (h:World.grownBy { w with drawn:=d } w' r):w.grownBy w' r:=⟨h.os,h.tape,h.output,h.size,h.block⟩
theorem EO {d:Nat} (h:w.grownBy w' r):World.grownBy { w with drawn:=d } w' r:=⟨h.os,h.tape,h.output,h.size,h.block⟩
theorem Good.below {ρ:Env} (h:Good X W n ρ a w) (hk:Own X ρ k):k<w.heap.size:=by
 rcases hk with hk | ⟨j,hk⟩ | ⟨j,-,hk⟩
 ·exact Nat.lt_of_lt_of_le (h.old k hk) h.grown.size
 ·exact (h.lo j k hk).2
 ·exact (h.loose j k hk).2
structure eo (X:Nat->Prop) (W:World) (n:Nat) (k:Nat) (kill:List Key) (ρ:Env) (w:World) (ρ':Env) (w':World):Prop where
 same:∀x:Atom,x.st≠some k->x.ev ρ'=x.ev ρ
 g:∀j,j≠k->ρ'.g j=ρ.g j
 good:∀a,Good X W n ρ a w->Good X W n ρ' a w'
 cells:∀j o g v,(∀y,y ∈ kill->(It.cell j o .un).hit y=false)->ρ.g j=some g->w.cell? ⟨g,o,none⟩=some v->w.frozen? ⟨g,o,none⟩=false->w'.cell? ⟨g,o,none⟩=some v∧w'.frozen? ⟨g,o,none⟩=false
 tight:∀J,(∀y,y ∈ kill->(It.held J (.one .un) 0).hit y=false)->Off (cf J X ρ) w w'
 own:∀J m,m<w.heap.size->cf J X ρ' m->cf J X ρ m
 o:∀j (x:Atom),(∀y,y ∈ kill->(It.lo j x).hit y=false)->∀m,blk (x.ev ρ)=some m->ρ.o j m->ρ'.o j m
 os:∀j,(∀y,y ∈ kill->(It.dV [j] .un).hit y=false)->∀m,ρ.o j m->ρ'.o j m
theorem eo.off {ρ ρ':Env} (h:eo X W n k kill ρ w ρ' w'):Off (Own X ρ) w w':=h.tight [] fun y _=>by cases y <;> rfl
theorem eo.of {ρ ρ':Env} (same:∀x:Atom,x.st≠some k->x.ev ρ'=x.ev ρ) (g:∀j,j≠k->ρ'.g j=ρ.g j) (good:∀a,Good X W n ρ a w->Good X W n ρ' a w')
  (cells:∀j o g v,(∀y,y ∈ kill->(It.cell j o .un).hit y=false)->ρ.g j=some g->w.cell? ⟨g,o,none⟩=some v->w.frozen? ⟨g,o,none⟩=false->w'.cell? ⟨g,o,none⟩=some v∧w'.frozen? ⟨g,o,none⟩=false)
  (t:Off (fun m=>X m∨∃j,ρ.g j=some m) w w') (hg:∀m j,m<w.heap.size->ρ'.g j=some m->∃i,ρ.g i=some m) (ho:ρ'.o=ρ.o):eo X W n k kill ρ w ρ' w':=
 ⟨same,g,good,cells,fun J _=>t.wide fun _ h=>h.elim .inl fun h=>.inr (.inl h),fun J m hm h=>by
  rcases h with h | ⟨j,h⟩ | ⟨j,h1,h2⟩
  ·exact .inl h
  ·exact .inr (.inl (hg m j hm h))
  ·exact .inr (.inr ⟨j,h1,by rw [<- ho];exact h2⟩),fun j x _ m _ h=>by rw [ho];exact h,fun j _ m h=>by rw [ho];exact h⟩
theorem C.same {ρ ρ':Env} (h:∀x:Atom,x.st≠some k->x.ev ρ'=x.ev ρ) (x:C) (hx:k ∉ x.sts):x.ev ρ'=x.ev ρ:=by
 have h2:∀a,a ∈ x.cells->a.ev ρ'=a.ev ρ:=fun a ha=>h a fun e=>hx (List.mem_filterMap.2 ⟨a,ha,e⟩)
 cases x with
 | one a=>exact h2 a (by simp [C.cells])
 | agg l=>
  have e:l.map (Atom.ev ρ')=l.map (Atom.ev ρ):=List.map_congr_left fun a ha=>h2 a ha
  simp only [C.ev,e]
theorem SV.same {k:Nat}{ρ ρ':Env} (h:∀x:Atom,x.st≠some k->x.ev ρ'=x.ev ρ) (x:SV) (hx:k ∉ x.sts):x.ev ρ'=x.ev ρ:=by
 cases x with
 | c x=>exact C.same h x hx
 | bz l=>
  have e:l.map (C.ev ρ')=l.map (C.ev ρ):=List.map_congr_left fun a ha=>C.same h a fun e=>hx (List.mem_flatMap.2 ⟨a,ha,e⟩)
  simp only [SV.ev,e]
theorem frame {ρ ρ':Env}{a':Act} (h:eo X W n k kill ρ w ρ' w')
  (ha:∀t,(∀y,y ∈ kill->(It.slot t (.c (.one .un))).hit y=false)->a'.tmps[t]?=a.tmps[t]?) (x:It) (hx:x.holds Φ X ρ a w) (hk:∀y,y ∈ kill->x.hit y=false) (hs:k ∉ x.sts):x.holds Φ X ρ' a' w':=by
 cases x with
 | slot t v=>
  simp only [It.holds] at hx ⊢
  rw [ha t (fun y hy=>by have:=hk y hy;cases y <;> simp_all [It.hit]),hx,SV.same h.same v hs]
 | cell j o x=>
  obtain ⟨g,h1,h2,h3⟩:=hx
  have hj:j≠k:=fun e=>hs (by simp [It.sts,e])
  have hx:x.st≠some k:=fun e=>hs (by simp [It.sts,e])
  obtain ⟨h4,h5⟩:=h.cells j o g _ (fun y hy=>by have:=hk y hy;cases y <;> simp_all [It.hit]) h1 h2 h3
  exact ⟨g,by rw [h.g j hj];exact h1,by rw [h.same x hx];exact h4,h5⟩
 | fact x p=>
  intro w'' hw
  have:=hx w'' (h.off.trans hw (h.own []))
  rw [C.same h.same x hs];exact this
 | held J x p=>
  intro w'' hw
  have:=hx w'' ((h.tight J (fun y hy=>by have:=hk y hy;cases y <;> simp_all [It.hit])).trans hw (h.own J))
  rw [C.same h.same x hs];exact this
 | lo j x=>
  intro g hg
  have hx':x.st≠some k:=fun e=>hs (by simp [It.sts,e])
  rw [h.same x hx'] at hg
  exact h.o j x hk g hg (hx g hg)
 | dV J x=>
  intro g hg
  have hx':x.st≠some k:=fun e=>hs (by simp [It.sts,e])
  rw [h.same x hx'] at hg
  obtain ⟨j,h1,h2⟩:=hx g hg
  exact ⟨j,h1,h.os j (fun y hy=>by have:=hk y hy;cases y <;> simp_all [It.hit];exact fun e=>this (e▸h1)) g h2⟩
theorem EP {α β:Type}{f:α->Option β}:∀{l:List α}{m:List β},l.mapM f=some m->m.length=l.length∧∀(j:Nat) (x:α),l[j]?=some x->∃y:β,m[j]?=some y∧f x=some y
 | [],m,h=>by
  simp at h;subst h;simp
 | x :: l,m,h=>by
  simp only [List.mapM_cons,Option.bind_eq_bind,Option.pure_def] at h
  cases hx:f x with
  | none=>simp [hx] at h
  | some y=>
   cases hl:l.mapM f with
   | none=>simp [hx,hl] at h
   | some ys=>
    simp [hx,hl] at h
    subst h
    obtain ⟨h1,h2⟩:=EP hl
    refine ⟨by simp [h1],fun j z hz=>?_⟩
    cases j with
    | zero=>simp at hz;subst hz;exact ⟨y,by simp,hx⟩
    | succ j=>simp at hz;obtain ⟨u,h3,h4⟩:=h2 j z hz;exact ⟨u,by simpa using h3,h4⟩
theorem Zb {f:α->Option Atom}{g:α->Value}{ρ:Env} (hf:∀x y,f x=some y->y.ev ρ=g x):∀{l:List α}{m:List Atom},l.mapM f=some m->m.map (Atom.ev ρ)=l.map g:=fun {l m} h=>by
 obtain ⟨h1,h2⟩:=EP h
 apply List.ext_getElem?
 intro j
 simp only [List.getElem?_map]
 cases hl:l[j]? with
 | none=>rw [List.getElem?_eq_none (by rw [h1];exact List.getElem?_eq_none_iff.1 hl)];rfl
 | some x=>obtain ⟨y,h3,h4⟩:=h2 j x hl;rw [h3];simp [hf x y h4]
def mJ:Value->Option Atom
 | .bool b=>some (.cb b)
 | .int k z=>some (.ci k z)
 | .slice none 0 0=>some .nl
 | .string s=>some (.cs s.data.toList)
 | _=>none
theorem EQ {a:Atom} (h:mJ v=some a) (ρ:Env):a.ev ρ=v:=by
 unfold mJ at h
 split at h <;> simp at h <;> subst h <;> simp [Atom.ev]
def mK:Value->Option C
 | .agg cs=>(cs.toList.mapM mJ).map .agg
 | v=>(mJ v).map .one
theorem wb {x:C} (h:mK v=some x) (ρ:Env):x.ev ρ=v:=by
 unfold mK at h
 split at h
 ·rename_i cs
  cases hm:cs.toList.mapM mJ with
  | none=>simp [hm] at h
  | some l=>
   simp [hm] at h;subst h
   simp only [C.ev]
   rw [Zb (g:=id) (fun x y hy=>EQ hy ρ) hm];simp
 ·rename_i hv
  cases ha:mJ v with
  | none=>simp [ha] at h
  | some a=>simp [ha] at h;subst h;exact EQ ha ρ
theorem jS (x:C) (ρ:Env):(x.ev ρ).cells=(x.cells.map (Atom.ev ρ)).toArray:=by
 cases x with
 | one a=>cases a <;> rfl
 | agg l=>rfl
def fp:List It->Nat->Option SV
 | [],_=>none
 | .slot t v :: l,u=>if t == u then some v else fp l u
 | .cell _ _ _ :: l,u=>fp l u
 | .fact _ _ :: l,u=>fp l u
 | .held _ _ _ :: l,u=>fp l u
 | .lo _ _ :: l,u=>fp l u
 | .dV _ _ :: l,u=>fp l u
def findCell:List It->Nat->Nat->Option Atom
 | [],_,_=>none
 | .slot _ _ :: l,k,o=>findCell l k o
 | .cell k' o' a :: l,k,o=>if k' == k && o' == o then some a else findCell l k o
 | .fact _ _ :: l,k,o=>findCell l k o
 | .held _ _ _ :: l,k,o=>findCell l k o
 | .lo _ _ :: l,k,o=>findCell l k o
 | .dV _ _ :: l,k,o=>findCell l k o
def val (st:List It):Operand->Option (SV×List It)
 | .tmp t=>(fp st t).map fun v=>(v,[.slot t v])
 | .const v=>(mK v).map fun x=>(.c x,[])
 | .func f=>some (.c (.one (.fn f)),[])
 | _=>none
section
variable {ρ:Env}{st:List It}
theorem rE {xs:Array Value}{t:Nat} (h:xs[t]?=some v):xs.getD t undef=v:=by
 rw [Array.getD_eq_getD_getElem?,h];rfl
theorem val_ok {v:SV}{l:List It} (h:val st x=some (v,l)) (hl:∀y,y ∈ l->y.holds Φ X ρ a w):a.eval x=v.ev ρ:=by
 cases x with
 | tmp t=>
  simp only [val] at h
  cases hs:fp st t with
  | none=>simp [hs] at h
  | some u=>
   simp [hs] at h
   obtain ⟨rfl,rfl⟩:=h
   exact rE (v:=u.ev ρ) (hl (.slot t u) (by simp))
 | const u=>
  simp only [val] at h
  cases hs:mK u with
  | none=>simp [hs] at h
  | some y=>
   simp [hs] at h
   obtain ⟨rfl,rfl⟩:=h
   exact (wb hs ρ).symm
 | global g=>simp [val] at h
 | func f=>
  simp only [val,Option.some.injEq,Prod.mk.injEq] at h
  obtain ⟨rfl,rfl⟩:=h
  rfl
end
def fy (st:List It) (k:Nat):Nat->Nat->Option (List Atom)
 | _,0=>some []
 | o,n+1=>match findCell st k o,fy st k (o+1) n with
  | some a,some l=>some (a :: l)
  | _,_=>none
def fq (k:Nat):Nat->List Atom->List It
 | _,[]=>[]
 | o,a :: l=>.cell k o a :: fq k (o+1) l
theorem lu {k:Nat}:∀{l:List Atom}{o j:Nat}{x:Atom},l[j]?=some x->It.cell k (o+j) x ∈ fq k o l
 | [],_,_,_,h=>by simp at h
 | y :: l,o,0,x,h=>by simp at h;subst h;simp [fq]
 | y :: l,o,j+1,x,h=>by
  have:=lu (k:=k) (o:=o+1) (l:=l) (j:=j) (x:=x) (by simpa using h)
  rw [show o+1+j=o+(j+1) by omega] at this
  exact List.mem_cons_of_mem _ this
theorem oJ {k:Nat}:∀{l:List Atom}{o:Nat}{y:It},y ∈ fq k o l->∃j x,y = .cell k (o+j) x∧l[j]?=some x
 | [],_,_,h=>by cases h
 | x :: l,o,y,h=>by
  rcases List.mem_cons.1 h with rfl | h
  ·exact ⟨0,x,rfl,rfl⟩
  ·obtain ⟨j,z,h1,h2⟩:=oJ h
   exact ⟨j+1,z,by rw [h1,show o+1+j=o+(j+1) by omega],by simpa using h2⟩
theorem oM {st:List It}{k:Nat}:∀{n o:Nat}{l:List Atom},fy st k o n=some l->l.length=n
 | 0,_,l,h=>by simp [fy] at h;subst h;rfl
 | n+1,o,l,h=>by
  simp only [fy] at h
  split at h
  ·rename_i a l' h1 h2
   simp at h;subst h
   simp [oM h2]
  ·cases h
theorem gV (g o j:Nat):(⟨g,o,none⟩:Addr).add j=⟨g,o+j,none⟩:=by unfold Addr.add;split <;> simp_all
section
variable {P:Program}{ρ:Env}{st:List It}
def gC (P:Program) (t:TypeId):Option Bool:=(P.underlying t).map fun | .struct _=>true | .array _ _=>true | _=>false
theorem gD {b:Bool} (h:gC P t=some b) (w:World):(isAgg t).run P w = .ok b w:=by
 unfold gC at h
 cases hu:P.underlying t with
 | none=>simp [hu] at h
 | some d=>
  simp [hu] at h
  unfold isAgg
  simp only [Sem.run_bind,run_underlying hu,Result.andThen_ok]
  cases d <;> simp_all
def dg (P:Program) (t:TypeId):Option Nat:=(P.info? t).map (·.size)
theorem run_sizeOf  (h:dg P t=some n) (w:World):(sizeOf t).run P w = .ok n w:=by
 unfold dg at h
 cases hi:P.info? t with
 | none=>simp [hi] at h
 | some i=>simp [hi] at h;subst h;simp [sizeOf,typeInfo,hi]
def zeroAt (P:Program) (t:TypeId):Option C:=((P.info? t).bind (·.zero)).bind mK
theorem uL {x:C} (h:zeroAt P t=some x) (ρ:Env) (w:World):(zeroValue t).run P w = .ok (x.ev ρ) w:=by
 unfold zeroAt at h
 cases hi:P.info? t with
 | none=>simp [hi] at h
 | some i=>
  cases hz:i.zero with
  | none=>simp [hi,hz] at h
  | some z=>
   simp [hi,hz] at h
   simp [zeroValue,typeInfo,hi,hz,wb h ρ]
def kf (P:Program) (st:List It) (t:TypeId) (k o:Nat):Option (C×List It):=
 match gC P t,dg P t with
 | some true,some n=>(fy st k o n).map fun l=>(.agg l,fq k o l)
 | some false,some _=>(findCell st k o).map fun x=>(.one x,[.cell k o x])
 | _,_=>none
theorem ER {o:Nat}{x:C}{l:List It} (h:kf P st t k o=some (x,l)) (hl:∀y,y ∈ l->y.holds Φ X ρ a w) :
  (Instr.loadAt t ((Atom.ptr k o).ev ρ)).run P w = .ok (x.ev ρ) w:=by
 unfold kf at h
 have e0:(Instr.sureAddr ((Atom.ptr k o).ev ρ))=pure ⟨(ρ.g k).getD 0,o,none⟩:=rfl
 split at h
 ·rename_i n ha hs
  cases hc:fy st k o n with
  | none=>simp [hc] at h
  | some cs=>
   simp [hc] at h
   obtain ⟨rfl,rfl⟩:=h
   have hlen:=oM hc
   have hrun:=run_loadCells_list (P:=P) w ⟨(ρ.g k).getD 0,o,none⟩ (cs.map (Atom.ev ρ)) (fun j v hv=>by
    simp only [List.getElem?_map,Option.map_eq_some_iff] at hv
    obtain ⟨y,hy,rfl⟩:=hv
    obtain ⟨g,h1,h2,h3⟩:=hl _ (lu (o:=o) hy)
    rw [gV,h1];exact h2)
   simp only [List.length_map,hlen] at hrun
   simp [Instr.loadAt,e0,loadVar,gD ha,run_sizeOf hs,hrun,C.ev]
 ·rename_i n ha hs
  cases hc:findCell st k o with
  | none=>simp [hc] at h
  | some y=>
   simp [hc] at h
   obtain ⟨rfl,rfl⟩:=h
   obtain ⟨g,h1,h2,h3⟩:=hl _ (List.mem_singleton.2 rfl)
   simp [Instr.loadAt,e0,loadVar,gD ha,h1,h2,C.ev]
 ·cases h
def rF (P:Program) (t:TypeId) (i:Int):Option Nat:=match P.underlying t with
 | some (.array n e)=>match dg P e with
  | some z=>if 0<=i∧i<n then some (i.toNat*z) else none
  | none=>none
 | _=>none
theorem Zc {off o:Nat}{i:Int}{kd:IntKind} (h:rF P t i=some off):(Instr.indexAt t ((Atom.ptr k o).ev ρ) ((Atom.ci kd i).ev ρ)).run P w = .ok ((Atom.ptr k (o+off)).ev ρ) w:=by
 unfold rF at h
 split at h
 ·rename_i n e hu
  split at h
  ·rename_i z hs
   split at h
   ·rename_i hi
    simp at h;subst h
    simp [Instr.indexAt,asIntOf,run_underlying hu,Instr.sureAddr,run_sizeOf hs,hi,gV,Atom.ev]
   ·cases h
  ·cases h
 ·cases h
def oh (P:Program) (s:TypeId) (f:Nat):Option Nat:=
 match P.underlying s with
 | some (.struct fs)=>match fs[f]? with
  | some fd=>match dg P fd.type with
   | some 0=>none
   | some _=>some fd.offset
   | none=>none
  | none=>none
 | _=>none
theorem BZ {s:TypeId}{f off o:Nat} (h:oh P s f=some off):(Instr.fieldAt s ((Atom.ptr k o).ev ρ) f).run P w = .ok ((Atom.ptr k (o+off)).ev ρ) w:=by
 unfold oh at h
 split at h
 ·rename_i fs hu
  split at h
  ·rename_i fd hf
   split at h
   ·cases h
   ·rename_i n hs hn
    simp at h;subst h
    have hn':n≠0:=fun e=>hs e
    simp [Instr.fieldAt,run_underlying hu,hf,Instr.sureAddr,fieldPlace,run_sizeOf hn,hn',gV,Atom.ev]
   ·cases h
  ·cases h
 ·cases h
def setAt (l:List Atom) (o:Nat):List Atom->List Atom
 | []=>l
 | x :: xs=>setAt (l.set o x) (o+1) xs
def kg (place:Nat->Option (Nat×Nat)) (cells:List Atom):List (Nat×List Atom)->Option (List Atom)
 | []=>some cells
 | (i,v) :: rest=>match place i with
  | none=>none
  | some (off,size)=>if v.length≠size || off+v.length > cells.length then none else kg place (setAt cells off v) rest
theorem ES (ρ:Env):∀(v l:List Atom) (o j:Nat),((v.map (Atom.ev ρ)).zipIdx j).foldl (fun (cs:Array Value) (c:Value×Nat)=>cs.setIfInBounds (o+c.2) c.1) (l.map (Atom.ev ρ)).toArray=((setAt l (o+j) v).map (Atom.ev ρ)).toArray
 | [],_,_,_=>rfl
 | x :: xs,l,o,j=>by
  simp only [List.map_cons,List.zipIdx_cons,List.foldl_cons,setAt]
  have:(l.map (Atom.ev ρ)).toArray.setIfInBounds (o+j) (x.ev ρ)=((l.set (o+j) x).map (Atom.ev ρ)).toArray:=by simp [List.map_set]
  rw [this,ES ρ xs _ o (j+1)]
  rfl
theorem wd (ρ:Env){place:Nat->Option (Nat×Nat)}:∀{parts:List (Nat×C)}{cells out:List Atom},kg place cells (parts.map fun q=>(q.1,q.2.cells))=some out->
  Instr.fill place (cells.map (Atom.ev ρ)).toArray (parts.map fun q=>(q.1,q.2.ev ρ))=some (out.map (Atom.ev ρ)).toArray
 | [],cells,out,h=>by simp [kg] at h;subst h;rfl
 | (i,x) :: rest,cells,out,h=>by
  simp only [List.map_cons,kg] at h
  simp only [List.map_cons,Instr.fill]
  split at h
  ·cases h
  ·rename_i off size hp
   split at h
   ·cases h
   ·rename_i hc
    rw [hp]
    simp only [jS]
    rw [if_neg (by simpa using hc)]
    have ih:=wd ρ (place:=place) h
    have e:=ES ρ x.cells cells off 0
    rw [<- ih]
    congr 1
    rw [show off+0=off from rfl] at e
    rw [<- e]
    rw [<- Array.foldl_toList];simp
end
section
variable {P:Program}{ρ:Env}{st:List It}
theorem bF {l m:List It} (h:∀y,y ∈ l ++ m->y.holds Φ X ρ a w):∀y,y ∈ l->y.holds Φ X ρ a w:=fun y hy=>h y (List.mem_append_left _ hy)
theorem bf {l m:List It} (h:∀y,y ∈ l ++ m->y.holds Φ X ρ a w):∀y,y ∈ m->y.holds Φ X ρ a w:=fun y hy=>h y (List.mem_append_right _ hy)
def boolT (P:Program) (t:TypeId):Bool:=match P.underlying t with
 | some .bool=>true
 | _=>false
def rG (P:Program) (op:BinOp) (t:TypeId):Atom->Atom->Option Atom
 | .ci k a,.ci k' b=>if k=k' then (match op with
   | .eql=>some (.cb (a == b))
   | .neq=>some (.cb (a != b))
   | .lss=>some (.cb (decide (a<b)))
   | .leq=>some (.cb (decide (a<=b)))
   | .gtr=>some (.cb (decide (a > b)))
   | .geq=>some (.cb (decide (a≥b)))
   | .add=>some (.ci k (k.wrap (a+b)))
   | .sub=>some (.ci k (k.wrap (a-b)))
   | .mul=>some (.ci k (k.wrap (a*b)))
   | _=>none) else none
 | .cb a,.cb b=>if boolT P t then (match op with
   | .eql=>some (.cb (a == b))
   | .neq=>some (.cb (!(a == b)))
   | _=>none) else none
 | _,_=>none
theorem Zd {x y:Atom}{u v:Operand} (h:rG P op t x y=some z) (w:World):(do eqGuard op t u v (x.ev ρ) (y.ev ρ);binOp op t (x.ev ρ) (y.ev ρ):Sem Value).run P w = .ok (z.ev ρ) w:=by
 have hg:∀p q:Value,(∀l,p≠.agg l)->p≠.nilIface->(eqGuard op t u v p q).run P w = .ok () w:=by
  intro p q h1 h2
  unfold eqGuard
  cases op <;> simp <;> cases p <;> simp_all
 unfold rG at h
 split at h
 ·rename_i k m k' m'
  split at h
  ·rename_i hk
   subst hk
   simp only [Sem.run_bind,hg ((Atom.ci k m).ev ρ) _ (by intro l;simp [Atom.ev]) (by simp [Atom.ev]),Result.andThen_ok]
   cases op <;> simp at h <;> subst h <;> simp [Atom.ev,binOp,Op.intCmp,Op.intArith]
  ·cases h
 ·rename_i m m'
  split at h
  ·rename_i hb
   have hu:P.underlying t=some .bool:=by
    unfold boolT at hb
    split at hb
    ·assumption
    ·cases hb
   simp only [Sem.run_bind,hg ((Atom.cb m).ev ρ) _ (by intro l;simp [Atom.ev]) (by simp [Atom.ev]),Result.andThen_ok]
   have hd:∀(d:Nat) (p q:Bool),(Op.equalIn (d+1) t (.bool p) (.bool q)).run P w = .ok (p == q) w:=by
    intro d p q
    simp [Op.equalIn,run_underlying hu]
   have he:∀p q:Bool,(Op.equal t (.bool p) (.bool q)).run P w = .ok (p == q) w:=by
    intro p q
    exact hd 9999 p q
   cases op <;> simp at h <;> subst h <;> simp [Atom.ev,binOp,he]
  ·cases h
 ·cases h
def rH (op:UnOp):Atom->Option Atom
 | .cb b=>match op with
  | .not=>some (.cb (!b))
  | _=>none
 | .ci k z=>match op with
  | .neg=>some (.ci k (k.wrap (0-z)))
  | _=>none
 | _=>none
theorem Ze {op:UnOp}{x:Atom} (h:rH op x=some z) (w:World):(Op.unary op (x.ev ρ)).run P w = .ok (z.ev ρ) w:=by
 cases x <;> simp [rH] at h <;> cases op <;> simp at h <;> subst h <;> simp [Atom.ev,Op.unary,Op.intArith]
def partsOf (st:List It):List (Nat×Operand)->Option (List (Nat×C)×List It)
 | []=>some ([],[])
 | (i,x) :: r=>match val st x,partsOf st r with
  | some (.c y,n),some (ys,m)=>some ((i,y) :: ys,n ++ m)
  | _,_=>none
theorem we:∀{l:List (Nat×Operand)}{ys:List (Nat×C)}{n:List It},partsOf st l=some (ys,n)->(∀y,y ∈ n->y.holds Φ X ρ a w)->(l.map fun q=>(q.1,a.eval q.2))=ys.map fun q=>(q.1,q.2.ev ρ)
 | [],ys,n,h,_=>by simp [partsOf] at h;rw [h.1];rfl
 | (i,x) :: r,ys,n,h,hl=>by
  simp only [partsOf] at h
  split at h
  ·rename_i y n1 zs n2 h1 h2
   simp at h
   obtain ⟨rfl,rfl⟩:=h
   have e1:=val_ok h1 (bF hl)
   have e2:=we h2 (bf hl)
   simp only [List.map_cons,e2,e1]
   rfl
  ·cases h
def rI (P:Program) (st:List It) (t:TypeId) (parts:Array (Nat×Operand)):Option (C×List It):=
 match P.underlying t,zeroAt P t,partsOf st parts.toList with
 | some (.struct fields),some z,some (ys,n)=>match fields.toList.mapM (fun f=>(P.info? f.type).map fun i=>(f.offset,i.size)) with
  | some places=>(kg (places.toArray[·]?) z.cells (ys.map fun q=>(q.1,q.2.cells))).map fun l=>(.agg l,n)
  | none=>none
 | _,_,_=>none
theorem Zf {z:C} (h:zeroAt P t=some z) (ρ:Env):∃it v,P.info? t=some it∧it.zero=some v∧v=z.ev ρ:=by
 unfold zeroAt at h
 cases hi:P.info? t with
 | none=>simp [hi] at h
 | some i=>
  cases hz:i.zero with
  | none=>simp [hi,hz] at h
  | some v=>simp [hi,hz] at h;exact ⟨i,v,rfl,hz,(wb h ρ).symm⟩
theorem Zg {parts:Array (Nat×Operand)}{x:C}{n:List It} (h:rI P st t parts=some (x,n)) (hl:∀y,y ∈ n->y.holds Φ X ρ a w) :
  (Instr.build t (parts.map fun (i,x)=>(i,a.eval x))).run P w = .ok (x.ev ρ) w:=by
 unfold rI at h
 split at h
 ·rename_i fields z ys n' hu hz hp
  split at h
  ·rename_i places hm
   cases hf:kg (places.toArray[·]?) z.cells (ys.map fun q=>(q.1,q.2.cells)) with
   | none=>rw [hf] at h;cases h
   | some l=>
    rw [hf] at h;simp only [Option.map_some,Option.some.injEq,Prod.mk.injEq] at h
    obtain ⟨rfl,rfl⟩:=h
    obtain ⟨it,v,h1,h2,h3⟩:=Zf hz ρ
    refine run_build w t _ _ ?_
    have e1:=we hp hl
    have e2:=wd ρ hf
    simp only [Program.built,h1,hu,h2,hm,h3,jS]
    rw [<- e2,<- e1]
    simp
  ·cases h
 ·cases h
def rJ (P:Program) (t:TypeId) (cs:List Atom) (off:Nat):Option C:=match gC P t,dg P t with
 | some true,some n=>some (.agg ((cs.drop off).take n))
 | some false,_=>(cs[off]?).map .one
 | _,_=>none
theorem Zh {off:Nat}{y:C} (h:rJ P t cs off=some y) (w:World):(part t (cs.map (Atom.ev ρ)).toArray off).run P w = .ok (y.ev ρ) w:=by
 unfold rJ at h
 split at h
 ·rename_i n ha hs
  simp only [Option.some.injEq] at h
  subst h
  simp only [part,Sem.run_bind,gD ha,Result.andThen_ok]
  simp [C.ev,run_sizeOf hs]
 ·rename_i ha
  cases hc:cs[off]? with
  | none=>simp [hc] at h
  | some x=>
   simp [hc] at h
   subst h
   simp [part,gD ha,hc,C.ev]
 ·cases h
def wg (P:Program) (st:List It):Op->Option (SV×List It)
 | .move x=>val st x
 | .assign x=>val st x
 | .pick c x y=>match val st c with
  | some (.c (.one (.cb b)),n)=>(val st (if b then x else y)).map fun r=>(r.1,n ++ r.2)
  | _=>none
 | .extract x j=>match val st x with
  | some (.bz l,n)=>(l[j]?).map fun y=>(.c y,n)
  | _=>none
 | .fieldAddr s x f=>match val st x with
  | some (.c (.one (.ptr k o)),n)=>(oh P s f).map fun off=>(.c (.one (.ptr k (o+off))),n)
  | _=>none
 | .field s x f=>match val st x with
  | some (.c (.agg cs),n)=>(match P.underlying s with
   | some (.struct fs)=>match fs[f]? with
    | some fd=>(rJ P fd.type cs fd.offset).map fun y=>(.c y,n)
    | none=>none
   | _=>none)
  | _=>none
 | .load t x=>match val st x with
  | some (.c (.one (.ptr k o)),n)=>(kf P st t k o).map fun r=>(.c r.1,n ++ r.2)
  | _=>none
 | .build t parts=>(rI P st t parts).map fun r=>(.c r.1,r.2)
 | .binOp op t x y _=>match val st x,val st y with
  | some (.c (.one u),n),some (.c (.one v),m)=>(rG P op t u v).map fun r=>(.c (.one r),n ++ m)
  | _,_=>none
 | .unOp op _ x=>match val st x with
  | some (.c (.one u),n)=>(rH op u).map fun r=>(.c (.one r),n)
  | _=>none
 | .nilCheck x=>match val st x with
  | some (.c (.one (.ptr k o)),n)=>some (.c (.one (.ptr k o)),n)
  | _=>none
 | .indexAddr t x y=>match val st x,val st y with
  | some (.c (.one (.ptr k o)),n),some (.c (.one (.ci _ i)),m)=>(rF P t i).map fun off=>(.c (.one (.ptr k (o+off))),n ++ m)
  | _,_=>none
 | _=>none
theorem pure_ok {v:SV}{n:List It} (h:wg P st o.op=some (v,n)) (hl:∀y,y ∈ n->y.holds Φ X ρ a w):(execOp a.eval o).run P w = .ok (.value (v.ev ρ)) w:=by
 unfold wg at h
 unfold execOp
 split at h <;> rename_i ho <;> simp only [ho]
 ·rename_i x
  rw [<- val_ok h hl];simp
 ·rename_i x
  rw [<- val_ok h hl];simp
 ·rename_i c x y
  split at h
  ·rename_i b n1 hc
   cases hv:val st (if b then x else y) with
   | none=>simp [hv] at h
   | some r=>
    simp [hv] at h
    obtain ⟨rfl,rfl⟩:=h
    have e1:=val_ok hc (bF hl)
    have e2:=val_ok (v:=r.1) (l:=r.2) hv (bf hl)
    rw [e1]
    cases b <;> simp_all [SV.ev,C.ev,Atom.ev,asBool]
  ·cases h
 ·rename_i x j
  split at h
  ·rename_i l n1 hc
   cases hj:l[j]? with
   | none=>simp [hj] at h
   | some y=>
    simp [hj] at h
    obtain ⟨rfl,rfl⟩:=h
    rw [val_ok hc hl]
    simp [SV.ev,Instr.extract,hj]
  ·cases h
 ·rename_i s x f
  split at h
  ·rename_i k o n1 hc
   cases hf:oh P s f with
   | none=>simp [hf] at h
   | some off=>
    simp [hf] at h
    obtain ⟨rfl,rfl⟩:=h
    rw [val_ok hc hl]
    have:=BZ (ρ:=ρ) (w:=w) (k:=k) (o:=o) hf
    simp [SV.ev,C.ev,this]
  ·cases h
 ·rename_i s x f
  split at h
  ·rename_i cs n1 hc
   split at h
   ·rename_i fs hu
    split at h
    ·rename_i fd hfd
     cases hp:rJ P fd.type cs fd.offset with
     | none=>simp [hp] at h
     | some y=>
      simp [hp] at h
      obtain ⟨rfl,rfl⟩:=h
      rw [val_ok hc hl]
      have:=Zh (ρ:=ρ) hp w
      simp [SV.ev,Instr.field,run_underlying hu,hfd,asAgg,this,show C.ev ρ (.agg cs) = .agg (cs.map (Atom.ev ρ)).toArray from rfl]
    ·cases h
   ·cases h
  ·cases h
 ·rename_i t x
  split at h
  ·rename_i k o n1 hc
   cases hf:kf P st t k o with
   | none=>simp [hf] at h
   | some r=>
    simp [hf] at h
    obtain ⟨rfl,rfl⟩:=h
    rw [val_ok hc (bF hl)]
    have:=ER (x:=r.1) (l:=r.2) hf (bf hl)
    simp [SV.ev,C.ev,this]
  ·cases h
 ·rename_i t parts
  cases hf:rI P st t parts with
  | none=>simp [hf] at h
  | some r=>
   simp [hf] at h
   obtain ⟨rfl,rfl⟩:=h
   have:=Zg (x:=r.1) (n:=r.2) hf hl
   simp only [Sem.run_bind,this,Result.andThen_ok]
   rfl
 ·rename_i op t x y yt
  split at h
  ·rename_i u n1 v n2 hx hy
   cases hf:rG P op t u v with
   | none=>simp [hf] at h
   | some r=>
    simp [hf] at h
    obtain ⟨rfl,rfl⟩:=h
    rw [val_ok hx (bF hl),val_ok hy (bf hl)]
    have:=Zd (ρ:=ρ) (u:=x) (v:=y) hf w
    simp only [SV.ev,C.ev,Sem.run_bind,this,Result.andThen_ok]
    rfl
  ·cases h
 ·rename_i op t x
  split at h
  ·rename_i u n1 hx
   cases hf:rH op u with
   | none=>simp [hf] at h
   | some r=>
    simp [hf] at h
    obtain ⟨rfl,rfl⟩:=h
    rw [val_ok hx hl]
    have:=Ze (P:=P) (ρ:=ρ) hf w
    simp [SV.ev,C.ev,this]
  ·cases h
 ·rename_i x
  split at h
  ·rename_i k o n1 hx
   simp only [Option.some.injEq,Prod.mk.injEq] at h
   obtain ⟨rfl,rfl⟩:=h
   rw [val_ok hx hl]
   simp [SV.ev,C.ev,Atom.ev]
  ·cases h
 ·rename_i t x y
  split at h
  ·rename_i k o n1 kd i n2 hx hy
   cases hf:rF P t i with
   | none=>simp [hf] at h
   | some off=>
    simp [hf] at h
    obtain ⟨rfl,rfl⟩:=h
    rw [val_ok hx (bF hl),val_ok hy (bf hl)]
    have:=Zc (ρ:=ρ) (w:=w) (k:=k) (o:=o) (kd:=kd) hf
    simp only [SV.ev,C.ev,Sem.run_bind,this,Result.andThen_ok]
    rfl
  ·cases h
 ·cases h
def oO (n:Nat) (l:List Atom):List Atom:=(List.range n).map fun j=>l.getD (j % l.length) .un
def wh (P:Program) (st:List It):Op->Option (List Atom×TypeId×Option Nat×List It)
 | .box t x=>match val st x with
  | some (.c y,n)=>some (y.cells,t,none,n)
  | _=>none
 | .alloc t=>(zeroAt P t).map fun z=>(z.cells,t,none,[])
 | .buildSlice t len parts=>match P.underlying t,partsOf st parts.toList with
  | some (.slice e),some (ys,n)=>match dg P e,zeroAt P e with
   | some size,some z=>if len*size<=16777216∧len*size≠0∧z.cells.length≠0 then
     (kg (fun i=>some (i*size,size)) (oO (len*size) z.cells) (ys.map fun q=>(q.1,q.2.cells))).map fun l=>(l,e,some len,n) else none
   | _,_=>none
  | _,_=>none
 | _=>none
def newAtom (k:Nat):Option Nat->Atom
 | none=>.ptr k 0
 | some n=>.row k n
theorem Zi {n:List It} (h:wh P st o.op=some (cs,t,r,n)) (hl:∀y,y ∈ n->y.holds Φ X ρ a w) (ρ':Env) (k:Nat) (hk:ρ'.g k=some w.heap.size) :
  (execOp a.eval o).run P w = .ok (.value ((newAtom k r).ev ρ')) (w.alloc (.cells (cs.map (Atom.ev ρ)).toArray t)):=by
 unfold wh at h
 unfold execOp
 split at h <;> rename_i ho <;> simp only [ho]
 ·rename_i t' x
  split at h
  ·rename_i y n1 hx
   simp at h
   obtain ⟨rfl,rfl,rfl,rfl⟩:=h
   rw [val_ok hx hl]
   simp [Instr.box,newVar,newRow,SV.ev,jS,newAtom,Atom.ev,hk]
  ·cases h
 ·rename_i t'
  cases hz:zeroAt P t' with
  | none=>simp [hz] at h
  | some z=>
   simp [hz] at h
   obtain ⟨rfl,rfl,rfl,rfl⟩:=h
   simp [Instr.alloc,uL hz ρ,newVar,newRow,jS,newAtom,Atom.ev,hk]
 ·rename_i t' len parts
  split at h
  ·rename_i e ys n1 hu hp
   split at h
   ·rename_i size z hs hz
    split at h
    ·rename_i hc
     obtain ⟨h1,h2,h3⟩:=hc
     cases hf:kg (fun i=>some (i*size,size)) (oO (len*size) z.cells) (ys.map fun q=>(q.1,q.2.cells)) with
     | none=>simp [hf] at h
     | some l=>
      simp [hf] at h
      obtain ⟨rfl,rfl,rfl,rfl⟩:=h
      have e1:=we hp hl
      have e2:=wd ρ hf
      have e3:((Array.range (len*size)).map fun j=>((z.cells.map (Atom.ev ρ)).toArray)[j % (z.cells.map (Atom.ev ρ)).toArray.size]!)=((oO (len*size) z.cells).map (Atom.ev ρ)).toArray:=by
       apply Array.ext
       ·simp [oO]
       ·intro j hj1 hj2
        have hlt:j % z.cells.length<z.cells.length:=Nat.mod_lt _ (by omega)
        simp [oO,List.getElem!_eq_getElem?_getD,hlt]
      have e4:(parts.map fun (q:Nat×Operand)=>(q.1,a.eval q.2)).toList=ys.map fun q=>(q.1,q.2.ev ρ):=by rw [<- e1];simp
      have e5:¬(len*size > 2 ^ 24):=by omega
      simp only [Instr.buildSlice,Sem.run_bind,run_underlying hu,Result.andThen_ok,run_sizeOf hs]
      rw [Sem.run_ite,if_neg e5]
      simp only [if_neg h2,Sem.run_bind,uL hz ρ,Result.andThen_ok,jS,Sem.run_pure]
      rw [show (parts.map fun x=>match x with | (i,x)=>(i,a.eval x))=parts.map fun (q:Nat×Operand)=>(q.1,a.eval q.2) from rfl,e4,e3,e2]
      simp [newRow,newAtom,Atom.ev,hk]
    ·cases h
   ·cases h
  ·cases h
 ·cases h
end
structure Eff where
 need:List It
 add:List It
 kill:List Key
 deriving Inhabited
inductive Sh where
 | b | s | i | t | p | nk | fv | lit (a:Atom)
inductive bW where
 | one (x:Sh) | agg (l:List Sh)
inductive Arg where
 | fact (p:Nat) | lit (a:Atom) | row (sz:Nat) (ps:List Nat) | parts (sh:bW) (fs:List (Nat×Nat×Nat)) | any
instance (n : Nat) : OfNat Arg n := ⟨.fact n⟩
structure Out where
 sh:bW
 fs:List (Nat×Nat×Nat)
variable {os:List Out}
inductive Mode where
 | call (bz:Bool) | quiet (m:Op->Option (List Operand)) | dF (J:List Nat) (bz:Bool) | kX (J:List Nat) (m:Op->Option (List Operand)) | loose (J:List Nat) (j i:Nat) (m:Op->Option (List Operand))
 | joint (J:List Nat) (p:Nat) (m:Op->Option (List Operand)) | put (J:List Nat) (j i p:Nat) (m:Op->Option (List Operand)) | lP (J:List Nat) (j i p:Nat) (m:Op->Option (List Operand))
 | eN (J:List Nat) (j:Nat) | oo (J:List Nat) | nF (J:List Nat) (j i:Nat) | rK (J js:List Nat) (ag:List (List Nat×List Nat)) (bz:Bool) | wi (J:List Nat) (j sz:Nat) (hs:List (List Nat)) | fresh (J:List Nat) (m:Op->Option (List Operand)) | kE (J:List Nat) (m:Op->Option (List Operand))
instance : Coe Bool Mode := ⟨Mode.call⟩
structure Site where
 f:FuncId
 args:List Arg
 outs:List Out
 md:Mode
def Site.bz (s:Site):Bool:=match s.md with
 | .call t=>t
 | .dF _ t=>t
 | .rK _ _ _ t=>t
 | _=>false
def Site.q (s:Site):Option (Op->Option (List Operand)):=match s.md with
 | .quiet m=>some m
 | .kX _ m=>some m
 | .fresh _ m=>some m
 | _=>none
def Site.lz (s:Site):Option Unit:=match s.md with
 | .call _=>none
 | .dF _ _=>none
 | _=>some ()
def Site.J (s:Site):List Nat:=match s.md with
 | .dF J _=>J
 | .kX J _=>J
 | .loose J j _ _=>j :: J
 | .joint J _ _=>J
 | .put J j _ _ _=>j :: J
 | .lP J j _ _ _=>j :: J
 | .eN J j=>j :: J
 | .oo J=>J
 | .nF J j _=>j :: J
 | .rK J _ _ _=>J
 | .wi J _ _ _=>J
 | .fresh J _=>J
 | .kE J _=>J
 | _=>[]
variable {s:Site}{rest ss:List Site}
def Sh.is:Sh->Value->Prop
 | .b,v=>∃x,v = .bool x
 | .s,v=>∃p n c,v = .slice p n c
 | .i,v=>∃z,v = .int .i64 z
 | .t,v=>∃x,v = .string x
 | .p,v=>∃x,v = .pointer x
 | .nk,v=>∃k z,v = .int k z
 | .fv,v=>∃f ca,v = .func (.func f) #[] ca
 | .lit a,v=>v=a.ev cV
def fW:List Sh->List Value->Prop
 | [],[]=>True
 | x :: xs,v :: vs=>x.is v∧fW xs vs
 | _,_=>False
def bW.is:bW->Value->Prop
 | .one x,v=>x.is v∧∀l,v≠.agg l
 | .agg l,v=>∃vs:List Value,v = .agg vs.toArray∧fW l vs
def cellsOf (v:Value):List Value:=v.cells.toList
def bn (o l:Nat) (v:Value):Value:=if l=0 then v else if l=1 then (cellsOf v).getD o undef else .agg (((cellsOf v).drop o).take l).toArray
def bm (o l:Nat) (x:C):C:=if l=0 then x else if l=1 then .one (x.cells.getD o .un) else .agg ((x.cells.drop o).take l)
theorem mL (o l:Nat) (x:C) (ρ:Env):(bm o l x).ev ρ=bn o l (x.ev ρ):=by
 have e:cellsOf (x.ev ρ)=x.cells.map (Atom.ev ρ):=by simp only [cellsOf,jS]
 unfold bm bn
 rw [e]
 split
 ·rfl
 ·split
  ·simp only [C.ev,List.getD_eq_getElem?_getD,List.getElem?_map]
   cases x.cells[o]? <;> rfl
  ·simp [C.ev]
section
variable (Φ:Nat->World->Value->Prop)
def rowOk (X:Nat->Prop) (w:World) (g sz:Nat):Nat->List Nat->Prop
 | _,[]=>True
 | o,p :: ps=>(∃l:List Value,l.length=sz∧(∀(c:Nat) (u:Value),l[c]?=some u->w.cell? ⟨g,o+c,none⟩=some u)∧∀w1,Off X w w1->Φ p w1 (.agg l.toArray))∧rowOk X w g sz (o+sz) ps
def Arg.ok (X:Nat->Prop) (w:World):Arg->Value->Prop
 | .fact p,v=>∀w1,Off X w w1->Φ p w1 v
 | .lit a,v=>v=a.ev cV
 | .row sz ps,v=>∃g,v = .slice (some ⟨g,0,none⟩) ps.length ps.length∧rowOk Φ X w g sz 0 ps
 | .parts sh fs,v=>sh.is v∧∀q,q ∈ fs->∀w1,Off X w w1->Φ q.2.2 w1 (bn q.1 q.2.1 v)
 | .any,_=>True
def cQ (X:Nat->Prop) (w:World):List Arg->List Value->Prop
 | [],[]=>True
 | x :: xs,v :: vs=>x.ok Φ X w v∧cQ X w xs vs
 | _,_=>False
def ch (X:Nat->Prop) (w:World):List Out->List Value->Prop
 | [],[]=>True
 | x :: xs,v :: vs=>(x.sh.is v∧∀q,q ∈ x.fs->∀w1,Off X w w1->Φ q.2.2 w1 (bn q.1 q.2.1 v))∧ch X w xs vs
 | _,_=>False
def oU (P:Program) (m:Op->Option (List Operand)) (s:Site):Prop:=∀(X:Nat->Prop) (w:World) (a:Act) (o:Oper) (xs:List Operand),(∀k,X k->k<w.heap.size)->m o.op=some xs->cQ Φ X w s.args (xs.map a.eval)->
 ∃u w',(execOp a.eval o).run P w = .ok (.value u) w'∧w.grownBy w' none∧ch Φ X w' s.outs [u]
def oV (P:Program) (s:Site):Prop:=∀(X:Nat->Prop) (w:World) (vs:List Value),(∀k,X k->k<w.heap.size)->cQ Φ X w s.args vs->
 Calls P s.f vs.toArray w fun e w'=>w.grownBy w' none∧∃us:List Value,e = .returned (if s.bz then .tuple us.toArray else us.headD undef)∧ch Φ X w' s.outs us
def ET (P:Program) (i:Nat) (m:Op->Option (List Operand)) (s:Site):Prop:=∀(X L:Nat->Prop) (w:World) (a:Act) (o:Oper) (xs:List Operand),(∀k,X k->k<w.heap.size)->(∀k,L k->k<w.heap.size)->(∀k,L k->¬X k)->m o.op=some xs->cQ Φ X w s.args (xs.map a.eval)->
 (∀x g,xs[i]?=some x->blk (a.eval x)=some g->L g)->cQ Φ (fun k=>X k∨L k) w (s.args.set i .any) (xs.map a.eval)->
 ∃u w' r,(execOp a.eval o).run P w = .ok (.value u) w'∧w.grownBy w' r∧(∀g,r=some g->L g)∧Kp w w'∧(∀g o v,(∀h,r=some h->g≠h)->w.cell? ⟨g,o,none⟩=some v->w.frozen? ⟨g,o,none⟩=false->w'.cell? ⟨g,o,none⟩=some v∧w'.frozen? ⟨g,o,none⟩=false)∧(∀g,blk u=some g->g<w'.heap.size∧(L g∨w.heap.size<=g))∧ch Φ X w' s.outs [u]
def EU (P:Program) (p:Nat) (m:Op->Option (List Operand)) (s:Site):Prop:=∀(X:Nat->Prop) (w:World) (a:Act) (o:Oper) (xs:List Operand),(∀k,X k->k<w.heap.size)->m o.op=some xs->cQ Φ X w s.args (xs.map a.eval)->
 ∃u w',(execOp a.eval o).run P w = .ok (.value u) w'∧w.grownBy w' none∧ch Φ X w' s.outs [u]∧∀w1,Off X w' w1->Φ p w1 (.agg (xs.map a.eval ++ [u]).toArray)
def Zj (P:Program) (i p:Nat) (m:Op->Option (List Operand)) (s:Site):Prop:=∀(X L:Nat->Prop) (w:World) (a:Act) (o:Oper) (xs:List Operand),(∀k,X k->k<w.heap.size)->(∀k,L k->k<w.heap.size)->(∀k,L k->¬X k)->m o.op=some xs->cQ Φ X w s.args (xs.map a.eval)->
 (∀w1,Off X w w1->Φ p w1 (.agg (xs.dropLast.map a.eval).toArray))->(∀x g,xs.dropLast[i]?=some x->blk (a.eval x)=some g->L g)->
 ∃w' r,(execOp a.eval o).run P w = .ok .skip w'∧w.grownBy w' r∧(∀g,r=some g->L g)∧Kp w w'∧(∀g o v,(∀h,r=some h->g≠h)->w.cell? ⟨g,o,none⟩=some v->w.frozen? ⟨g,o,none⟩=false->w'.cell? ⟨g,o,none⟩=some v∧w'.frozen? ⟨g,o,none⟩=false) ∧
  ∀x,xs.dropLast[i]?=some x->ch Φ X w' s.outs [a.eval x]
def Zk (P:Program) (i p:Nat) (m:Op->Option (List Operand)) (s:Site):Prop:=∀(X L:Nat->Prop) (w:World) (a:Act) (o:Oper) (xs:List Operand),(∀k,X k->k<w.heap.size)->(∀k,L k->k<w.heap.size)->(∀k,L k->¬X k)->m o.op=some xs->cQ Φ X w s.args (xs.map a.eval)->
 (∀w1,Off X w w1->Φ p w1 (.agg (xs.dropLast.map a.eval).toArray))->(∀x g,xs.dropLast[i]?=some x->blk (a.eval x)=some g->L g)->cQ Φ (fun k=>X k∨L k) w (s.args.set i .any) (xs.map a.eval)->
 ∃w' r,(execOp a.eval o).run P w = .ok .skip w'∧w.grownBy w' r∧(∀g,r=some g->L g)∧Kp w w'∧(∀g o v,(∀h,r=some h->g≠h)->w.cell? ⟨g,o,none⟩=some v->w.frozen? ⟨g,o,none⟩=false->w'.cell? ⟨g,o,none⟩=some v∧w'.frozen? ⟨g,o,none⟩=false) ∧
  ∀x,xs.dropLast[i]?=some x->ch Φ X w' s.outs [a.eval x]
def eY (P:Program) (s:Site):Prop:=∀(X:Nat->Prop) (w:World) (vs:List Value),(∀k,X k->k<w.heap.size)->cQ Φ X w s.args vs->
 Calls P s.f vs.toArray w fun e w'=>w.grownBy w' none∧∃u:Value,e = .returned u∧ch Φ X w' s.outs [u]∧∀g,blk u=some g->w.heap.size<=g∧g<w'.heap.size
def wj (P:Program) (s:Site):Prop:=∀(X:Nat->Prop) (w:World) (u:Value) (vs:List Value),(∀k,X k->k<w.heap.size)->cQ Φ X w s.args (u :: vs)->
 ∃ca,u = .func (.func s.f) #[] ca∧Calls P s.f (vs.toArray ++ ca) w fun e w'=>w.grownBy w' none∧∃us:List Value,e = .returned (if s.bz then .tuple us.toArray else us.headD undef)∧ch Φ X w' s.outs us
def wk (P:Program) (i:Nat) (s:Site):Prop:=∀(X L:Nat->Prop) (w:World) (vs:List Value),(∀k,X k->k<w.heap.size)->(∀k,L k->k<w.heap.size)->(∀k,L k->¬X k)->cQ Φ X w s.args vs->
 (∀x g,vs[i]?=some x->blk x=some g->L g)->
 Calls P s.f vs.toArray w fun e w'=>w.grownBy w' none∧∃u:Value,e = .returned u∧ch Φ X w' s.outs [u]∧∀g,blk u=some g->g<w'.heap.size∧(L g∨w.heap.size<=g)
def EV (P:Program) (m:Op->Option (List Operand)) (s:Site):Prop:=∀(X:Nat->Prop) (w:World) (a:Act) (o:Oper) (xs:List Operand),(∀k,X k->k<w.heap.size)->m o.op=some xs->cQ Φ X w s.args (xs.map a.eval)->
 ∃u w',(execOp a.eval o).run P w = .ok (.value u) w'∧w.grownBy w' none∧∀Y:Nat->Prop,ch Φ Y w' s.outs [u]
def Wr (w w':World) (S:Nat->Prop):Prop:=(w'.os=w.os∧w'.tape=w.tape∧w'.output=w.output)∧Kp w w'∧∀k,k<w.heap.size->¬S k->w'.heap[k]?=w.heap[k]?
def rL (X:Nat->Prop) (L:Nat->Nat->Prop) (J:List Nat) (w:World):List (List Nat×List Nat)->List Arg->List Value->Prop
 | [],[],[]=>True
 | a :: ag,g :: gs,v :: vs=>(g.ok Φ (fun k=>X k∨∃j,j ∈ J∧j ∉ a.1∧L j k) w v∧(a.2 ≠ []->∀b,blk v=some b->∃j,j ∈ a.2∧L j b))∧rL X L J w ag gs vs
 | _,_,_=>False
def wl (P:Program) (J js:List Nat) (ag:List (List Nat×List Nat)) (s:Site):Prop:=∀(X:Nat->Prop) (L:Nat->Nat->Prop) (W0 w:World) (vs:List Value),W0.grownBy w none->(∀k,X k->k<w.heap.size)->(∀j k,L j k->W0.heap.size<=k∧k<w.heap.size)->(∀j k,j ∈ J->L j k->¬X k)->(∀i j k,L i k->L j k->i=j)->
 rL Φ X L J w ag s.args vs->
 Calls P s.f vs.toArray w fun e w'=>∃us:List Value,e = .returned (if s.bz then .tuple us.toArray else us.headD undef)∧Wr w w' (fun k=>∃j,j ∈ js∧L j k)∧ch Φ (fun k=>X k∨∃i,i ∈ J∧i ∉ js∧L i k) w' s.outs us∧∀u,us.head?=some u->∀b,blk u=some b->∃j,j ∈ js∧L j b
def wm (P:Program) (J:List Nat) (j sz:Nat) (hs:List (List Nat)) (s:Site):Prop:=∀(X:Nat->Prop) (L:Nat->Nat->Prop) (W0 w:World) (B:Nat) (l vs:List Value),W0.grownBy w none->(∀k,X k->k<w.heap.size)->(∀j k,L j k->W0.heap.size<=k∧k<w.heap.size)->(∀j k,j ∈ J->L j k->¬X k)->(∀i j k,L i k->L j k->i=j)->
 W0.heap.size<=B->X B->(∀i,¬L i B)->l.length=sz->(∀(i:Nat) (u:Value),l[i]?=some u->w.cell? ⟨B,i,none⟩=some u∧w.frozen? ⟨B,i,none⟩=false)->rL Φ X L J w (hs.map fun h=>(h,[])) s.args (.agg l.toArray :: vs)->(∀b,blk (l.headD undef)=some b->L j b)->
 Calls P s.f (.pointer (some ⟨B,0,none⟩) :: vs).toArray w fun e w'=>∃(u:Value) (l':List Value),e = .returned u∧Wr w w' (fun k=>k=B∨L j k)∧l'.length=sz∧(∀(i:Nat) (u:Value),l'[i]?=some u->w'.cell? ⟨B,i,none⟩=some u∧w'.frozen? ⟨B,i,none⟩=false) ∧
  ch Φ (fun k=>X k∨∃i,i ∈ J∧i≠j∧L i k) w' s.outs [u,.agg l'.toArray]∧∀b,blk (l'.headD undef)=some b->L j b∨w.heap.size<=b∧b<w'.heap.size
def aj (P:Program) (s:Site):Prop:=match s.md with
 | .rK J js ag _=>wl Φ P J js ag s
 | .wi J j sz hs=>wm Φ P J j sz hs s
 | .kE _ m=>EV Φ P m s
 | .nF _ _ i=>wk Φ P i s
 | .oo _=>wj Φ P s
 | .eN _ _=>eY Φ P s
 | .call _=>oV Φ P s
 | .dF _ _=>oV Φ P s
 | .quiet m=>oU Φ P m s
 | .kX _ m=>oU Φ P m s
 | .fresh _ m=>oU Φ P m s
 | .loose _ _ i m=>ET Φ P i m s
 | .joint _ p m=>EU Φ P p m s
 | .put _ _ i p m=>Zj Φ P i p m s
 | .lP _ _ i p m=>Zk Φ P i p m s
end
def EW:Value->Bool | .bool b=>b | _=>false
def asS:Value->Option Addr×Nat×Nat | .slice p n c=>(p,n,c) | _=>(none,0,0)
def EX:Value->Int | .int _ z=>z | _=>0
def EY:Value->ByteArray | .string s=>s | _=>⟨#[]⟩
def asN:Value->IntKind×Int | .int k z=>(k,z) | _=>(.i64,0)
def EZ:Value->FuncId×Array Value | .func (.func f) _ ca=>(f,ca) | _=>(0,#[])
def asP:Value->Option Addr | .pointer a=>a | _=>none
def Env.put (ρ:Env) (k:Nat) (l:List Value):Env:=
 ⟨fun j c=>if j=k then EW (l.getD c undef) else ρ.b j c,fun j c=>if j=k then asS (l.getD c undef) else ρ.s j c,
  fun j c=>if j=k then EX (l.getD c undef) else ρ.i j c,fun j c=>if j=k then EY (l.getD c undef) else ρ.t j c,fun j c=>if j=k then asP (l.getD c undef) else ρ.p j c,fun j c=>if j=k then asN (l.getD c undef) else ρ.nk j c,ρ.g,ρ.o,fun j c=>if j=k then EZ (l.getD c undef) else ρ.v j c⟩
def Env.box (ρ:Env) (k g:Nat):Env:={ ρ with g:=fun j=>if j=k then some g else ρ.g j }
variable {ρ:Env}
theorem mM {l:List Value} (x:Atom) (h:x.st≠some k):x.ev (ρ.put k l)=x.ev ρ:=by
 cases x <;> simp_all [Atom.ev,Atom.st,Env.put]
theorem Fa {g:Nat} (x:Atom) (h:x.st≠some k):x.ev (ρ.box k g)=x.ev ρ:=by
 cases x <;> simp_all [Atom.ev,Atom.st,Env.box]
def Sh.atom (k c:Nat):Sh->Atom
 | .b=>.b k c
 | .s=>.s k c
 | .i=>.i k c
 | .t=>.t k c
 | .p=>.p k c
 | .nk=>.nk k c
 | .fv=>.fv k c
 | .lit a=>a
def Sh.good:Sh->Bool
 | .lit a=>a.st.isNone
 | _=>true
def kh (k:Nat):Nat->List Sh->List Atom
 | _,[]=>[]
 | c,x :: xs=>x.atom k c :: kh k (c+1) xs
def bW.comp (k c:Nat):bW->C
 | .one x=>.one (x.atom k c)
 | .agg l=>.agg (kh k c l)
def bW.len:bW->Nat
 | .one _=>1
 | .agg l=>l.length
def bW.good:bW->Bool
 | .one x=>x.good
 | .agg l=>l.all Sh.good
def kj (k:Nat):Nat->List Out->List C
 | _,[]=>[]
 | c,o :: os=>o.sh.comp k c :: kj k (c+o.sh.len) os
def facts (k:Nat):Nat->List Out->List It
 | _,[]=>[]
 | c,o :: os=>o.fs.map (fun q=>.fact (bm q.1 q.2.1 (o.sh.comp k c)) q.2.2) ++ facts k (c+o.sh.len) os
def wo (J:List Nat):It->It
 | .fact x p=>.held J x p
 | y=>y
def fh (J:List Nat) (k:Nat) (os:List Out):List It:=if J = [] then facts k 0 os else (facts k 0 os).map (wo J)
theorem oW {a:Atom} (h:a.st=none) (ρ ρ':Env):a.ev ρ=a.ev ρ':=by cases a <;> simp_all [Atom.st,Atom.ev]
theorem Sh.ev {x:Sh} (h:x.is v) (hg:x.good=true){c:Nat}{l:List Value} (hl:l[c]?=some v):(x.atom k c).ev (ρ.put k l)=v:=by
 cases x <;> simp only [Sh.is] at h
 ·obtain ⟨x,rfl⟩:=h;simp [Sh.atom,Atom.ev,Env.put,hl,EW]
 ·obtain ⟨p,n,m,rfl⟩:=h;simp [Sh.atom,Atom.ev,Env.put,hl,asS]
 ·obtain ⟨x,rfl⟩:=h;simp [Sh.atom,Atom.ev,Env.put,hl,EX]
 ·obtain ⟨x,rfl⟩:=h;simp [Sh.atom,Atom.ev,Env.put,hl,EY]
 ·obtain ⟨x,rfl⟩:=h;simp [Sh.atom,Atom.ev,Env.put,hl,asP]
 ·obtain ⟨x,y,rfl⟩:=h;simp [Sh.atom,Atom.ev,Env.put,hl,asN]
 ·obtain ⟨x,y,rfl⟩:=h;simp [Sh.atom,Atom.ev,Env.put,hl,EZ]
 ·rw [h];exact oW (by simpa [Sh.good,Sh.atom] using hg) _ _
theorem fW.ev {ρ:Env}{k:Nat}{l:List Value}:∀{xs:List Sh}{vs:List Value}{c:Nat},fW xs vs->xs.all Sh.good=true->(∀j v,vs[j]?=some v->l[c+j]?=some v)->(kh k c xs).map (Atom.ev (ρ.put k l))=vs
 | [],[],_,_,_,_=>rfl
 | x :: xs,v :: vs,c,h,hg,hl=>by
  simp only [List.all_cons,Bool.and_eq_true] at hg
  simp only [kh,List.map_cons]
  rw [Sh.ev h.1 hg.1 (by simpa using hl 0 v rfl),fW.ev h.2 hg.2 (fun j u hj=>by rw [show c+1+j=c+(j+1) by omega];exact hl (j+1) u (by simpa using hj))]
 | [],_ :: _,_,h,_,_=>h.elim
 | _ :: _,[],_,h,_,_=>h.elim
theorem fW.length:∀{xs:List Sh}{vs:List Value},fW xs vs->vs.length=xs.length
 | [],[],_=>rfl
 | _ :: _,_ :: _,h=>by simp [fW.length h.2]
 | [],_ :: _,h=>h.elim
 | _ :: _,[],h=>h.elim
theorem Zm  (h:∀l,v≠.agg l):cellsOf v = [v]:=by
 cases v <;> simp_all [cellsOf,Value.cells]
theorem bW.ev {x:bW}{v:Value} (h:x.is v) (hg:x.good=true){ρ:Env}{k c:Nat}{l:List Value} (hl:∀j u,(cellsOf v)[j]?=some u->l[c+j]?=some u):(x.comp k c).ev (ρ.put k l)=v∧(cellsOf v).length=x.len:=by
 cases x with
 | one x=>
  have e:=Zm h.2
  rw [e] at hl ⊢
  exact ⟨Sh.ev h.1 hg (by simpa using hl 0 v rfl),rfl⟩
 | agg xs=>
  obtain ⟨vs,rfl,h⟩:=h
  simp only [bW.comp,C.ev,cellsOf,Value.cells] at hl ⊢
  rw [fW.ev h hg (fun j u hj=>hl j u hj)]
  exact ⟨rfl,fW.length h⟩
variable {sh:bW}
def lw (a:Atom):Sh->Bool
 | .b=>match a with | .b _ _ | .cb _=>true | _=>false
 | .s=>match a with | .s _ _ | .nl | .row _ _=>true | _=>false
 | .i=>match a with | .i _ _ | .ci .i64 _=>true | _=>false
 | .t=>match a with | .t _ _ | .cs _=>true | _=>false
 | .p=>match a with | .p _ _ | .ptr _ _=>true | _=>false
 | .nk=>match a with | .nk _ _ | .i _ _ | .ci _ _=>true | _=>false
 | .fv=>match a with | .fv _ _ | .fn _=>true | _=>false
 | .lit b=>a.beq b && b.st.isNone
def allFit:List Atom->List Sh->Bool
 | [],[]=>true
 | a :: l,x :: xs=>lw a x && allFit l xs
 | _,_=>false
def mN:C->bW->Bool
 | .one a,.one x=>lw a x
 | .agg l,.agg xs=>allFit l xs
 | _,_=>false
theorem wq {a:Atom}{x:Sh} (h:lw a x=true) (ρ:Env):x.is (a.ev ρ):=by
 cases x with
 | lit b=>
  simp only [lw,Bool.and_eq_true,Option.isNone_iff_eq_none] at h
  rw [Sh.is,Atom.dN h.1]
  exact oW h.2 _ _
 | _=>simp only [lw] at h;split at h <;> first | exact ⟨_,rfl⟩ | exact ⟨_,_,rfl⟩ | exact ⟨_,_,_,rfl⟩ | cases h
theorem Fb (ρ:Env):∀{l:List Atom}{xs:List Sh},allFit l xs=true->fW xs (l.map (Atom.ev ρ))
 | [],[],_=>trivial
 | a :: l,x :: xs,h=>by
  simp only [allFit,Bool.and_eq_true] at h
  exact ⟨wq h.1 ρ,Fb ρ h.2⟩
 | [],_ :: _,h=>by simp [allFit] at h
 | _ :: _,[],h=>by simp [allFit] at h
theorem rM {c:C}{x:bW} (h:mN c x=true) (ρ:Env):x.is (c.ev ρ):=by
 cases c <;> cases x <;> simp only [mN,Bool.false_eq_true] at h
 ·rename_i a x
  exact ⟨wq h ρ,fun l=>by cases a <;> simp [C.ev,Atom.ev,undef]⟩
 ·exact ⟨_,rfl,Fb ρ h⟩
section
theorem gu {X:Nat->Prop}{w:World}{ρ:Env}{k:Nat}{l:List Value}:∀{os:List Out}{us:List Value}{c:Nat},ch Φ X w os us->os.all (fun o=>o.sh.good)=true->(∀j u,(us.flatMap cellsOf)[j]?=some u->l[c+j]?=some u)->
  (kj k c os).map (C.ev (ρ.put k l))=us∧∀y,y ∈ facts k c os->∃x p,y = .fact x p∧∀w1,Off X w w1->Φ p w1 (x.ev (ρ.put k l))
 | [],[],_,_,_,_=>⟨rfl,fun y hy=>by cases hy⟩
 | o :: os,u :: us,c,h,hg,hl=>by
  simp only [List.all_cons,Bool.and_eq_true] at hg
  obtain ⟨⟨h1,h2⟩,h3⟩:=h
  obtain ⟨e1,e2⟩:=bW.ev (ρ:=ρ) (k:=k) (c:=c) (l:=l) h1 hg.1 (fun j v hj=>hl j v (by simp only [List.flatMap_cons];rw [List.getElem?_append_left (List.getElem?_eq_some_iff.1 hj).1];exact hj))
  have ih:=gu (ρ:=ρ) (k:=k) (l:=l) (c:=c+o.sh.len) h3 hg.2 (fun j v hj=>by
   have:=hl (o.sh.len+j) v (by
    simp only [List.flatMap_cons]
    rw [List.getElem?_append_right (by omega),e2,show o.sh.len+j-o.sh.len=j by omega];exact hj)
   rwa [<- Nat.add_assoc] at this)
  simp only [kj,List.map_cons,e1,ih.1,facts,true_and]
  intro y hy
  rcases List.mem_append.1 hy with hy | hy
  ·obtain ⟨q,hq,rfl⟩:=List.mem_map.1 hy
   exact ⟨_,q.2.2,rfl,fun w1 hw=>by rw [mL,e1];exact h2 q hq w1 hw⟩
  ·exact ih.2 y hy
 | [],_ :: _,_,h,_,_=>h.elim
 | _ :: _,[],_,h,_,_=>h.elim
end
def mO (P:Program) (Φ:Nat->World->Value->Prop) (X:Nat->Prop) (ops:Array Oper) (Q:Exit->Act->World->Prop) (W:World) (n i k:Nat) (e:Eff):Prop:=
 ∀(ρ:Env) (a:Act) (w:World) (K:Act->World->Prop),Good X W n ρ a w->(∀x,x ∈ e.need->x.holds Φ X ρ a w)->
  (∀ρ' a' w',Good X W n ρ' a' w'->(∀x,x ∈ e.add->x.holds Φ X ρ' a' w')->(∀x:It,x.holds Φ X ρ a w->(∀y,y ∈ e.kill->x.hit y=false)->k ∉ x.sts->x.holds Φ X ρ' a' w')->K a' w')->wpOp P ops Q i K a w
def cF:Option Tmp->List Key
 | some d=>[.slot d]
 | none=>[]
def dO (d:Option Tmp) (v:SV):List It:=match d with
 | some d=>[.slot d v]
 | none=>[]
section
variable {P:Program}{ops:Array Oper}
theorem km  (t:Nat) (h:∀y,y ∈ cF d->(It.slot t (.c (.one .un))).hit y=false):(a.put d v).tmps[t]?=a.tmps[t]?:=by
 cases d with
 | none=>rfl
 | some d=>
  have:=h (.slot d) (by simp [cF])
  simp only [It.hit,beq_eq_false_iff_ne] at this
  simp [Act.put,Array.getElem?_setIfInBounds_ne (Ne.symm this)]
theorem ko {v:SV} (hd:∀x,d=some x->x<a.tmps.size):∀x,x ∈ dO d v->x.holds Φ X ρ (a.put d (v.ev ρ)) w:=by
 intro x hx
 cases d with
 | none=>cases hx
 | some d=>
  simp only [dO,List.mem_singleton] at hx
  subst hx
  have:=hd d rfl
  simp [It.holds,Act.put,this]
theorem kw  (h:Good X W n ρ a w):Good X W n ρ (a.put d v) w:=by
 refine ⟨?_,?_,h.grown,h.inj,h.lo,h.old,h.loose,h.apart,h.one,h.far⟩ <;> cases d <;> simp [Act.put,h.defers,h.size]
theorem kA  (ho:ops[i]?=some o) (hw:Region.wanted o (yielded ops a.tmps)=true) (ρ':Env) (v:SV) (w':World)
  (hr:(execOp a.eval o).run P w = .ok (.value (v.ev ρ')) w'∨((execOp a.eval o).run P w = .ok .skip w'∧o.dst=none)){add:List It}
  (hs:eo X W n k kill ρ w ρ' w') (hG:Good X W n ρ a w) (hd:∀x,o.dst=some x->x<n) (ha:∀x,x ∈ add->x.holds Φ X ρ' (a.put o.dst (v.ev ρ')) w')
  (hK:∀ρ' a' w',Good X W n ρ' a' w'->(∀x,x ∈ dO o.dst v ++ add->x.holds Φ X ρ' a' w')->(∀x:It,x.holds Φ X ρ a w->(∀y,y ∈ cF o.dst ++ kill->x.hit y=false)->k ∉ x.sts->x.holds Φ X ρ' a' w')->K a' w'):wpOp P ops Q i K a w:=by
 have h:K (a.put o.dst (v.ev ρ')) w':=by
  refine hK ρ' _ w' (kw (hs.good a hG)) (fun x hx=>?_) (fun x hx hk hn=>?_)
  ·rcases List.mem_append.1 hx with hx | hx
   ·exact ko (fun x hx=>by rw [hG.size];exact hd x hx) x hx
   ·exact ha x hx
  ·have hk1:∀y,y ∈ kill->x.hit y=false:=fun y hy=>hk y (List.mem_append_right _ hy)
   have hs':eo X W n k (cF o.dst ++ kill) ρ w ρ' w':=⟨hs.same,hs.g,hs.good,fun j q g u hj=>hs.cells j q g u (fun y hy=>hj y (List.mem_append_right _ hy)),fun J hj=>hs.tight J (fun y hy=>hj y (List.mem_append_right _ hy)),hs.own,fun j x hj=>hs.o j x (fun y hy=>hj y (List.mem_append_right _ hy)),fun j hj=>hs.os j (fun y hy=>hj y (List.mem_append_right _ hy))⟩
   exact frame hs' (fun t ht=>km t (fun y hy=>ht y (List.mem_append_left _ hy))) x hx hk hn
 unfold wpOp
 simp only [ho,hw,if_true]
 refine .inl ?_
 unfold Oper.wp
 rcases hr with hr | ⟨hr,hn⟩
 ·rw [hr];exact h
 ·rw [hr]
  simp only [Oper.upon]
  rw [hn] at h ⊢
  exact h
theorem Fc  (k:Nat) (kill:List Key):eo X W n k kill ρ w ρ w:=
 .of (fun _ _=>rfl) (fun _ _=>rfl) (fun _ h=>h) (fun _ _ _ _ _ _ h1 h2=>⟨h1,h2⟩) (Off.refl _ _) (fun _ j _ h=>⟨j,h⟩) rfl
theorem mP {l:List Value} (k:Nat) (g:w.grownBy w' none):eo X W n k [] ρ w (ρ.put k l) w':=by
 refine .of (fun x hx=>mM x hx) (fun _ _=>rfl) (fun a h=>⟨h.defers,h.size,aR h.grown g,h.inj,fun j b hj=>?_,h.old,fun j m hm=>⟨(h.loose j m hm).1,Nat.lt_of_lt_of_le (h.loose j m hm).2 g.size⟩,h.apart,h.one,⟨Nat.le_trans h.far.1 g.size,h.far.2⟩⟩) (fun j o b v _ hj h1 h2=>⟨cell_grown g h1,gz g h1 h2⟩) (Off.grown g) (fun _ j _ h=>⟨j,h⟩) rfl
 exact ⟨(h.lo j b hj).1,Nat.lt_of_lt_of_le (h.lo j b hj).2 g.size⟩
theorem Zn  (k:Nat) (c:Array Value) (t:TypeId):eo X W n k [] ρ w (ρ.box k w.heap.size) (w.alloc (.cells c t)):=by
 have g:=bg w (.cells c t) none
 have hb:∀j b,(ρ.box k w.heap.size).g j=some b->(j=k∧b=w.heap.size)∨(j≠k∧ρ.g j=some b):=fun j b h=>by
  simp only [Env.box] at h
  split at h
  ·exact .inl ⟨‹_›,(Option.some.inj h).symm⟩
  ·exact .inr ⟨‹_›,h⟩
 refine .of (fun x hx=>Fa x hx) (fun j hj=>by simp [Env.box,hj]) (fun a h=>⟨h.defers,h.size,aR h.grown g,fun j m b hj hm=>?_,fun j b hj=>?_,h.old,fun j m hm=>⟨(h.loose j m hm).1,Nat.lt_of_lt_of_le (h.loose j m hm).2 g.size⟩,fun i j b hj ho=>?_,h.one,⟨Nat.le_trans h.far.1 g.size,h.far.2⟩⟩) (fun j o b v _ hj h1 h2=>⟨cell_grown g h1,gz g h1 h2⟩) (Off.grown g) (fun m j hm h=>?_) rfl
 ·rcases hb j b hj with ⟨h1,h2⟩ | ⟨h1,h2⟩ <;> rcases hb m b hm with ⟨h3,h4⟩ | ⟨h3,h4⟩
  ·rw [h1,h3]
  ·have:=(h.lo m b h4).2;omega
  ·have:=(h.lo j b h2).2;omega
  ·exact h.inj j m b h2 h4
 ·rcases hb j b hj with ⟨h1,h2⟩ | ⟨h1,h2⟩
  ·subst h2;exact ⟨h.grown.size,by simp⟩
  ·exact ⟨(h.lo j b h2).1,by have:=(h.lo j b h2).2;simp;omega⟩
 ·rcases hb j b hj with ⟨h1,h2⟩ | ⟨h1,h2⟩
  ·have:=(h.loose i b ho).2;omega
  ·exact h.apart i j b h2 ho
 ·rcases hb j m h with ⟨h1,h2⟩ | ⟨h1,h2⟩
  ·omega
  ·exact ⟨j,h2⟩
end
theorem Fd (g:Nat){m:Nat} (hm:m≠g):∀(vs:List Value) (o:Nat) (w:World),(w.setCells g o vs).heap[m]?=w.heap[m]?
 | [],_,_=>rfl
 | v :: r,o,w=>by rw [World.setCells,Fd g hm r];exact Below.heap_setCell _ _ _ _ (by simpa using hm)
theorem iw (g:Nat):∀(vs:List Value) (o:Nat) (w:World),w.grownBy (w.setCells g o vs) (some g)
 | [],_,_=>bt _ _
 | v :: r,o,w=>aR (bV w g o v) (iw g r (o+1) _)
theorem Zo {a:Atom} (h:a.vZ=true) (ρ:Env):(a.ev ρ).oneCell'=true:=by cases a <;> simp_all [Atom.vZ,Atom.ev,Value.oneCell']
theorem Zp {a:Atom} (h:a.still=true) (ρ:Env) (k:IntKind) (z:Int):a.ev ρ≠.int k z:=by cases a <;> simp_all [Atom.still,Atom.ev]
def ws (P:Program) (st:List It) (t:TypeId) (x y:Operand):Option (Nat×Nat×List Atom×List Atom×List It):=
 match val st x,val st y with
 | some (.c (.one (.ptr k o)),n),some (.c v,m)=>
  if dg P t=some v.cells.length∧v.cells.length≠0∧v.cells.all Atom.vZ=true then
   (fy st k o v.cells.length).bind fun l=>if l.all Atom.still then some (k,o,v.cells,l,n ++ m ++ fq k o l) else none
  else none
 | _,_=>none
def oZ (k:Nat):Nat->Nat->List Key
 | _,0=>[]
 | o,n+1=>.cell k o :: oZ k (o+1) n
theorem Ff {k:Nat}:∀{n o j:Nat},j<n->Key.cell k (o+j) ∈ oZ k o n
 | n+1,o,0,_=>by simp [oZ]
 | n+1,o,j+1,h=>by
  have:=Ff (k:=k) (n:=n) (o:=o+1) (j:=j) (by omega)
  rw [show o+1+j=o+(j+1) by omega] at this
  exact List.mem_cons_of_mem _ this
section
variable {P:Program}{ops:Array Oper}{st:List It}
theorem Zq {y:Operand}{q:Nat}{vs l:List Atom}{need:List It} (ho:o.op = .store t x y) (h:ws P st t x y=some (b,q,vs,l,need)) (hl:∀z,z ∈ need->z.holds Φ X ρ a w) (hG:Good X W n ρ a w) :
  ∃w',(execOp a.eval o).run P w = .ok .skip w'∧eo X W n k (oZ b q vs.length) ρ w ρ w'∧∀z,z ∈ fq b q vs->∀a',z.holds Φ X ρ a' w':=by
 unfold ws at h
 split at h
 case h_2=>cases h
 rename_i k0 o0 n1 v m1 hx hy
 split at h
 case isFalse=>cases h
 rename_i hc
 obtain ⟨h1,h2,h3⟩:=hc
 cases hcl:fy st k0 o0 v.cells.length with
 | none=>simp [hcl] at h
 | some l0=>
  simp only [hcl,Option.bind_some] at h
  split at h
  case isFalse=>cases h
  rename_i hst
  simp only [Option.some.injEq,Prod.mk.injEq] at h
  obtain ⟨rfl,rfl,rfl,rfl,rfl⟩:=h
  have hlen:=oM hcl
  have ex:=val_ok hx (bF (bF hl))
  have ey:=val_ok hy (bf (bF hl))
  have hold:=bf hl
  have hget:∀j,j<v.cells.length->∃u:Atom,l0[j]?=some u∧u.still=true:=fun j hj=>by
   have hj':j<l0.length:=by omega
   exact ⟨l0[j],List.getElem?_eq_getElem hj',List.all_eq_true.1 hst _ (List.getElem_mem hj')⟩
  obtain ⟨u0,hu0,_⟩:=hget 0 (by omega)
  obtain ⟨g,hg,_,_⟩:=hold _ (lu (o:=o0) hu0)
  have hcell:∀j,j<v.cells.length->∃u:Atom,u.still=true∧w.cell? ⟨g,o0+j,none⟩=some (u.ev ρ)∧w.frozen? ⟨g,o0+j,none⟩=false:=fun j hj=>by
   obtain ⟨u,hu,hs⟩:=hget j hj
   obtain ⟨g',hg',h4,h5⟩:=hold _ (lu (o:=o0) hu)
   obtain rfl:g=g':=Option.some.inj (hg.symm.trans hg')
   exact ⟨u,hs,h4,h5⟩
  have hrun:=run_storeCells_cells (P:=P) g o0 (v.cells.map (Atom.ev ρ)) 0 w
   (fun j hj=>by obtain ⟨u,_,h4,_⟩:=hcell j (by simpa using hj);rw [Nat.add_zero,h4];rfl)
   (fun j hj=>by obtain ⟨u,_,_,h5⟩:=hcell j (by simpa using hj);rw [Nat.add_zero];exact h5)
   (fun z hz=>by obtain ⟨c,hc,rfl⟩:=List.mem_map.1 hz;exact Zo (List.all_eq_true.1 h3 c hc) ρ)
  rw [Nat.add_zero] at hrun
  refine ⟨w.setCells g o0 (v.cells.map (Atom.ev ρ)),?_,eo.of (fun _ _=>rfl) (fun _ _=>rfl) (fun a' h'=>⟨h'.defers,h'.size,cK h'.grown (iw g _ _ _) (h'.lo _ g hg).1,h'.inj,fun j c hj=>?_,h'.old,fun j m hm=>⟨(h'.loose j m hm).1,Nat.lt_of_lt_of_le (h'.loose j m hm).2 (iw g _ _ _).size⟩,h'.apart,h'.one,⟨Nat.le_trans h'.far.1 (iw g _ _ _).size,h'.far.2⟩⟩) (fun j o' g' u hj hg' h4 h5=>?_) ⟨⟨(iw g _ _ _).size,fun p kk z _ hp=>?_⟩,fun m hm hx=>?_⟩ (fun _ j _ h=>⟨j,h⟩) rfl,fun z hz a'=>?_⟩
  ·unfold execOp
   simp only [ho,ex,ey]
   have e0:Instr.sureAddr (C.ev ρ (.one (.ptr k0 o0)))=pure ⟨g,o0,none⟩:=by simp [C.ev,Atom.ev,Instr.sureAddr,hg]
   simp only [Instr.storeAt,SV.ev,e0,storeVar,jS,Sem.run_bind,Sem.run_pure,Result.andThen_ok,run_sizeOf h1]
   simp [hrun]
  ·exact ⟨(h'.lo j c hj).1,Nat.lt_of_lt_of_le (h'.lo j c hj).2 (iw g _ _ _).size⟩
  ·rw [World.frozen?_setCells]
   refine ⟨?_,h5⟩
   rw [World.cell?_setCells_out g _ _ _ _ (fun hb _=>?_)]
   ·exact h4
   ·obtain rfl:g'=g:=hb
    obtain rfl:j=k0:=hG.inj j k0 g' hg' hg
    simp only [List.length_map]
    rcases Nat.lt_or_ge o' o0 with h6 | h6
    ·exact .inl h6
    ·rcases Nat.lt_or_ge o' (o0+v.cells.length) with h7 | h7
     ·have:=hj _ (Ff (k:=j) (o:=o0) (n:=v.cells.length) (j:=o' - o0) (by omega))
      simp only [It.hit,show o0+(o' - o0)=o' by omega,beq_self_eq_true,Bool.and_self] at this
      cases this
     ·exact .inr h7
  ·rw [World.cell?_setCells_out g _ _ _ _ (fun hb hsp=>?_)]
   ·exact hp
   ·simp only [List.length_map]
    rcases Nat.lt_or_ge p.off o0 with h6 | h6
    ·exact .inl h6
    ·rcases Nat.lt_or_ge p.off (o0+v.cells.length) with h7 | h7
     ·obtain ⟨u,hs,h8,_⟩:=hcell (p.off-o0) (by omega)
      rw [show o0+(p.off-o0)=p.off by omega] at h8
      obtain ⟨pb,po,ps⟩:=p
      simp only at hb hsp
      subst hb;subst hsp
      rw [hp] at h8
      exact absurd (Option.some.inj h8).symm (Zp hs ρ _ _)
     ·exact .inr h7
  ·exact Fd g (fun e=>hx (.inr ⟨k0,by rw [e];exact hg⟩)) _ _ _
  ·obtain ⟨j,c,rfl,hj⟩:=oJ hz
   refine ⟨g,hg,?_,?_⟩
   ·have hj':j<v.cells.length:=(List.getElem?_eq_some_iff.1 hj).1
    rw [World.cell?_setCells_in g _ _ _ (fun q hq=>by obtain ⟨u,_,h4,_⟩:=hcell q (by simpa using hq);rw [h4];rfl) j (by simpa using hj')]
    simp only [List.getElem_map,Option.some.injEq]
    rw [List.getElem?_eq_getElem hj'] at hj
    rw [Option.some.inj hj]
   ·rw [World.frozen?_setCells]
    obtain ⟨u,_,_,h5⟩:=hcell j (List.getElem?_eq_some_iff.1 hj).1
    exact h5
def fI (P:Program) (f:FuncId):Bool:=match P.funcs[f]? with
 | some fn => !(fn.name == "runtime.NumGoroutine") && fn.body.isSome
 | none=>false
theorem pc  (ho:o.op = .call c) (hc:c.callee = .value x) (hx:a.eval x = .func (.func f) #[] #[]) (hf:fI P f=true) :
  (execOp a.eval o).run P w = .ok (.enter f (c.args.map a.eval)) w:=by
 unfold fI at hf
 split at hf
 case h_2=>cases hf
 rename_i fn hfn
 simp only [Bool.and_eq_true,Bool.not_eq_true'] at hf
 obtain ⟨h1,h2⟩:=hf
 have h3:fn.body≠none:=by intro hb;rw [hb] at h2;cases h2
 have h4 : fn.name ≠ "runtime.NumGoroutine" := by simpa using h1
 unfold execOp
 simp [ho,resolve,hc,hx,Deferred.ofValue,invoke,callFunc,hfn,h3,h4]
theorem Zs {ca:Array Value} (ho:o.op = .call c) (hc:c.callee = .value x) (hx:a.eval x = .func (.func f) #[] ca) (hf:fI P f=true) :
  (execOp a.eval o).run P w = .ok (.enter f (c.args.map a.eval ++ ca)) w:=by
 unfold fI at hf
 split at hf
 case h_2=>cases hf
 rename_i fn hfn
 simp only [Bool.and_eq_true,Bool.not_eq_true'] at hf
 obtain ⟨h1,h2⟩:=hf
 have h3:fn.body≠none:=by intro hb;rw [hb] at h2;cases h2
 have h4 : fn.name ≠ "runtime.NumGoroutine" := by simpa using h1
 unfold execOp
 simp [ho,resolve,hc,hx,Deferred.ofValue,invoke,callFunc,hfn,h3,h4]
def pd (J:List Nat) (y:C) (p:Nat):It->Bool
 | .held J' x q=>q == p && (x.beq y && J'.all fun j=>J.contains j)
 | _=>false
def gv (st:List It) (J:List Nat) (y:C) (p:Nat):It:=if J = [] then .fact y p else if st.any (fun z=>z.beq (.fact y p)) then .fact y p else (st.find? (pd J y p)).getD (.fact y p)
theorem fG {st:List It}{J:List Nat}{y:C} (h:(gv st J y p).holds Φ X ρ a w):∀w1,Off (cf J X ρ) w w1->Φ p w1 (y.ev ρ):=by
 have hf:(It.fact y p).holds Φ X ρ a w->∀w1,Off (cf J X ρ) w w1->Φ p w1 (y.ev ρ):=fun h w1 hw=>h w1 (hw.wide fun _ h=>h.own)
 unfold gv at h
 split at h
 ·exact hf h
 ·split at h
  ·exact hf h
  ·cases hs:st.find? (pd J y p) with
   | none=>rw [hs] at h;exact hf h
   | some z=>
    rw [hs] at h
    have hz:=List.find?_some hs
    cases z with
    | held J' x q=>
     simp only [pd,Bool.and_eq_true,beq_iff_eq,List.all_eq_true,List.contains_eq_mem,decide_eq_true_eq] at hz
     obtain ⟨rfl,hx,hJ⟩:=hz
     rw [<- C.dN hx]
     exact fun w1 hw=>h w1 (hw.wide fun _ h=>h.less hJ)
    | _=>cases hz
def kB (st:List It) (J:List Nat) (sz:Nat):List Atom->List Nat->List It
 | _,[]=>[]
 | l,p :: ps=>gv st J (.agg (l.take sz)) p :: kB st J sz (l.drop sz) ps
def lC (st:List It) (J:List Nat) (x:Operand):Arg->Option (List It)
 | .fact p=>match val st x with
  | some (.c y,n)=>some (n ++ [gv st J y p])
  | _=>none
 | .lit b=>match val st x with
  | some (.c (.one y),n)=>if y.beq b && b.st.isNone then some n else none
  | _=>none
 | .row sz ps=>match val st x with
  | some (.c (.one (.row k n)),m)=>if n=ps.length then (fy st k 0 (n*sz)).map fun l=>m ++ (fq k 0 l ++ kB st J sz l ps) else none
  | _=>none
 | .parts sh fs=>match val st x with
  | some (.c y,n)=>if mN y sh then some (n ++ fs.map fun q=>gv st J (bm q.1 q.2.1 y) q.2.2) else none
  | _=>none
 | .any=>(val st x).map (·.2)
def dP (st:List It) (J:List Nat):List Operand->List Arg->Option (List It)
 | [],[]=>some []
 | x :: xs,g :: gs=>match lC st J x g,dP st J xs gs with
  | some n,some m=>some (n ++ m)
  | _,_=>none
 | _,_=>none
theorem Fg {J:List Nat}{ρ:Env}{a:Act}{w:World}{b g:Nat} (hg:ρ.g b=some g) (sz:Nat):∀(ps:List Nat) (o:Nat) (l:List Atom),l.length=ps.length*sz->(∀z,z ∈ fq b o l ++ kB st J sz l ps->z.holds Φ X ρ a w)->rowOk Φ (cf J X ρ) w g sz o ps
 | [],_,_,_,_=>trivial
 | p :: ps,o,l,hlen,hl=>by
  have hlen':l.length=ps.length*sz+sz:=by rw [hlen,List.length_cons,Nat.succ_mul]
  refine ⟨⟨(l.take sz).map (Atom.ev ρ),by simp;omega,fun c u hc=>?_,fun w1 hw=>?_⟩,Fg (a:=a) hg sz ps (o+sz) (l.drop sz) (by simp;omega) (fun z hz=>?_)⟩
  ·simp only [List.getElem?_map,Option.map_eq_some_iff] at hc
   obtain ⟨y,hy,rfl⟩:=hc
   have hy':l[c]?=some y:=by
    rw [List.getElem?_take] at hy
    split at hy
    ·exact hy
    ·cases hy
   obtain ⟨g',hg',h1,_⟩:=hl _ (List.mem_append_left _ (lu (o:=o) hy'))
   obtain rfl:g=g':=Option.some.inj (hg.symm.trans hg')
   exact h1
  ·exact fG (hl (gv st J (.agg (l.take sz)) p) (List.mem_append_right _ (by simp [kB]))) w1 hw
  ·rcases List.mem_append.1 hz with hz | hz
   ·obtain ⟨j,y,rfl,hj⟩:=oJ hz
    rw [List.getElem?_drop] at hj
    have:=hl _ (List.mem_append_left _ (lu (o:=o) hj))
    rwa [<- Nat.add_assoc] at this
   ·exact hl z (List.mem_append_right _ (by simp [kB,hz]))
theorem Fh {J:List Nat}{g:Arg}{need:List It} (h:lC st J x g=some need) (hl:∀z,z ∈ need->z.holds Φ X ρ a w):g.ok Φ (cf J X ρ) w (a.eval x):=by
 cases g with
 | fact p=>
  simp only [lC] at h
  split at h
  ·rename_i y n1 hx
   simp at h;subst h
   rw [val_ok hx (bF hl)]
   exact fG (hl (gv st J y p) (by simp))
  ·cases h
 | lit b=>
  simp only [lC] at h
  split at h
  ·rename_i y n1 hx
   split at h
   ·rename_i hb
    simp at h;subst h
    simp only [Bool.and_eq_true,Option.isNone_iff_eq_none] at hb
    rw [Arg.ok,val_ok hx hl,Atom.dN hb.1]
    exact oW hb.2 _ _
   ·cases h
  ·cases h
 | row sz ps=>
  simp only [lC] at h
  split at h
  ·rename_i k0 n0 m hx
   split at h
   ·rename_i hn
    subst hn
    cases hc:fy st k0 0 (ps.length*sz) with
    | none=>simp [hc] at h
    | some l=>
     simp [hc] at h;subst h
     have hlen:=oM hc
     have hl':=bf hl
     rw [Arg.ok,val_ok hx (bF hl)]
     refine ⟨(ρ.g k0).getD 0,rfl,?_⟩
     cases hg:ρ.g k0 with
     | some g=>exact Fg hg sz ps 0 l hlen hl'
     | none=>
      have hnil:l = []:=by
       cases l with
       | nil=>rfl
       | cons y l=>
        obtain ⟨g,hg',_⟩:=hl' (.cell k0 0 y) (by simp [fq])
        rw [hg] at hg';cases hg'
      subst hnil
      have hz:∀(ps:List Nat) (o:Nat),ps.length*sz=0->(∀z,z ∈ kB st J sz [] ps->z.holds Φ X ρ a w)->rowOk Φ (cf J X ρ) w 0 sz o ps:=by
       intro ps
       induction ps with
       | nil=>intro o _ _;trivial
       | cons p ps ih=>
        intro o h0 h1
        have hsz:sz=0:=by
         rcases Nat.mul_eq_zero.1 h0 with h0 | h0
         ·simp at h0
         ·exact h0
        exact ⟨⟨[],by simp [hsz],by simp,fun w1 hw=>fG (h1 (gv st J (.agg []) p) (by simp [kB])) w1 hw⟩,ih _ (by simp [hsz]) (fun z hz=>h1 z (by simp [kB,hz]))⟩
      exact hz ps 0 (by simpa using hlen.symm) (fun z hz=>hl' z (by simpa [fq] using hz))
   ·cases h
  ·cases h
 | parts sh fs=>
  simp only [lC] at h
  split at h
  ·rename_i y n1 hx
   split at h
   ·rename_i hf
    simp at h;subst h
    rw [Arg.ok,val_ok hx (bF hl)]
    refine ⟨rM hf ρ,fun q hq w1 hw=>?_⟩
    have:=fG (hl (gv st J (bm q.1 q.2.1 y) q.2.2) (List.mem_append_right _ (List.mem_map.2 ⟨q,hq,rfl⟩))) w1 hw
    rwa [mL] at this
   ·cases h
  ·cases h
 | any=>trivial
theorem gw {J:List Nat}{ρ:Env}{a:Act}{w:World}:∀{xs:List Operand}{gs:List Arg}{need:List It},dP st J xs gs=some need->(∀z,z ∈ need->z.holds Φ X ρ a w)->cQ Φ (cf J X ρ) w gs (xs.map a.eval)
 | [],[],_,_,_=>trivial
 | x :: xs,g :: gs,need,h,hl=>by
  simp only [dP] at h
  split at h
  ·rename_i n1 m1 h1 h2
   simp at h;subst h
   exact ⟨Fh h1 (bF hl),gw h2 (bf hl)⟩
  ·cases h
 | [],_ :: _,_,h,_=>by simp [dP] at h
 | _ :: _,[],_,h,_=>by simp [dP] at h
def dk (k:Nat) (s:Site):Option SV:=if s.bz then some (.bz (kj k 0 s.outs)) else match kj k 0 s.outs with
 | [x]=>some (.c x)
 | _=>none
theorem lD {J:List Nat} (h:∀y,y ∈ facts k 0 os->∃x p,y = .fact x p∧∀w1,Off (cf J X ρ) w w1->Φ p w1 (x.ev ρ)) (x:It) (hx:x ∈ fh J k os):x.holds Φ X ρ a w:=by
 unfold fh at hx
 split at hx
 ·rename_i e
  subst e
  obtain ⟨y,p,rfl,hy⟩:=h x hx
  exact hy
 ·obtain ⟨z,hz,rfl⟩:=List.mem_map.1 hx
  obtain ⟨y,p,rfl,hy⟩:=h z hz
  exact hy
def eE (s:Site):Bool:=s.outs.all fun o=>o.sh.good
theorem Zt {v:SV}{need:List It} (hi:ops[i]?=some o) (hw:Region.wanted o (yielded ops a.tmps)=true) (ho:o.op = .call c) (hc:c.callee = .value x0) (hx0:a.eval x0 = .func (.func s.f) #[] #[]) (hf:fI P s.f=true) (hs:oV Φ P s) (hsg:eE s=true)
  (hv:dk k s=some v) (ha:dP st s.J c.args.toList s.args=some need) (hl:∀z,z ∈ need->z.holds Φ X ρ a w) (hG:Good X W n ρ a w) (hd:∀x,o.dst=some x->x<n)
  (hK:∀ρ' a' w',Good X W n ρ' a' w'->(∀x,x ∈ dO o.dst v ++ fh s.J k s.outs->x.holds Φ X ρ' a' w')->(∀x:It,x.holds Φ X ρ a w->(∀y,y ∈ cF o.dst->x.hit y=false)->k ∉ x.sts->x.holds Φ X ρ' a' w')->K a' w'):wpOp P ops Q i K a w:=by
 unfold wpOp
 simp only [hi,hw,if_true]
 refine .inl ?_
 unfold Oper.wp
 rw [pc ho hc hx0 hf]
 have hargs:(c.args.map a.eval)=(c.args.toList.map a.eval).toArray:=by apply Array.ext';simp
 simp only [Oper.upon]
 rw [hargs]
 refine (hs (cf s.J X ρ) w _ (fun m hm=>hG.below hm.own) (gw ha hl)).mono fun e w' ⟨hg,us,he,hus⟩=>?_
 subst he
 obtain ⟨e1,e2⟩:=gu (ρ:=ρ) (k:=k) (l:=us.flatMap cellsOf) (c:=0) hus hsg (fun j u hj=>by rw [Nat.zero_add];exact hj)
 have hev:(if s.bz then Value.tuple us.toArray else us.headD undef)=v.ev (ρ.put k (us.flatMap cellsOf)):=by
  unfold dk at hv
  split at hv
  ·rename_i ht
   simp only [Option.some.injEq] at hv
   subst hv
   rw [if_pos ht,SV.ev,e1]
  ·rename_i ht
   rw [if_neg ht]
   split at hv
   ·rename_i x hx
    simp only [Option.some.injEq] at hv
    subst hv
    rw [hx] at e1
    exact (congrArg (fun l:List Value=>l.headD undef) e1).symm
   ·cases hv
 have hst:eo X W n k [] ρ w (ρ.put k (us.flatMap cellsOf)) w':=mP k hg
 show K (a.put o.dst _) w'
 rw [hev]
 refine hK _ _ w' (kw (hst.good a hG)) (fun x hx=>?_) (fun x hx hk hn=>?_)
 ·rcases List.mem_append.1 hx with hx | hx
  ·exact ko (fun x hx=>by rw [hG.size];exact hd x hx) x hx
  ·exact lD (fun y hy=>by obtain ⟨z,p,rfl,hz⟩:=e2 y hy;exact ⟨z,p,rfl,hz⟩) x hx
 ·have hst':eo X W n k (cF o.dst) ρ w (ρ.put k (us.flatMap cellsOf)) w':=⟨hst.same,hst.g,hst.good,fun j q g u _=>hst.cells j q g u (fun y hy=>by cases hy),fun J _=>hst.tight J (fun y hy=>by cases hy),hst.own,fun j x _=>hst.o j x (fun y hy=>by cases hy),fun j _=>hst.os j (fun y hy=>by cases hy)⟩
  exact frame hst' (fun t ht=>km t ht) x hx hk hn
theorem Zu {v:SV}{need:List It} (hi:ops[i]?=some o) (hw:Region.wanted o (yielded ops a.tmps)=true) (ho:o.op = .call c) (hc:c.callee = .value x0) (hf:fI P s.f=true) (hs:wj Φ P s) (hsg:eE s=true)
  (hv:dk k s=some v) (ha:dP st s.J (x0 :: c.args.toList) s.args=some need) (hl:∀z,z ∈ need->z.holds Φ X ρ a w) (hG:Good X W n ρ a w) (hd:∀x,o.dst=some x->x<n)
  (hK:∀ρ' a' w',Good X W n ρ' a' w'->(∀x,x ∈ dO o.dst v ++ fh s.J k s.outs->x.holds Φ X ρ' a' w')->(∀x:It,x.holds Φ X ρ a w->(∀y,y ∈ cF o.dst->x.hit y=false)->k ∉ x.sts->x.holds Φ X ρ' a' w')->K a' w'):wpOp P ops Q i K a w:=by
 unfold wpOp
 simp only [hi,hw,if_true]
 refine .inl ?_
 unfold Oper.wp
 obtain ⟨ca,hx0,hcl⟩:=hs (cf s.J X ρ) w (a.eval x0) (c.args.toList.map a.eval) (fun m hm=>hG.below hm.own) (gw ha hl)
 rw [Zs ho hc hx0 hf]
 have hargs:(c.args.map a.eval)=(c.args.toList.map a.eval).toArray:=by apply Array.ext';simp
 simp only [Oper.upon]
 rw [hargs]
 refine hcl.mono fun e w' ⟨hg,us,he,hus⟩=>?_
 subst he
 obtain ⟨e1,e2⟩:=gu (ρ:=ρ) (k:=k) (l:=us.flatMap cellsOf) (c:=0) hus hsg (fun j u hj=>by rw [Nat.zero_add];exact hj)
 have hev:(if s.bz then Value.tuple us.toArray else us.headD undef)=v.ev (ρ.put k (us.flatMap cellsOf)):=by
  unfold dk at hv
  split at hv
  ·rename_i ht
   simp only [Option.some.injEq] at hv
   subst hv
   rw [if_pos ht,SV.ev,e1]
  ·rename_i ht
   rw [if_neg ht]
   split at hv
   ·rename_i x hx
    simp only [Option.some.injEq] at hv
    subst hv
    rw [hx] at e1
    exact (congrArg (fun l:List Value=>l.headD undef) e1).symm
   ·cases hv
 have hst:eo X W n k [] ρ w (ρ.put k (us.flatMap cellsOf)) w':=mP k hg
 show K (a.put o.dst _) w'
 rw [hev]
 refine hK _ _ w' (kw (hst.good a hG)) (fun x hx=>?_) (fun x hx hk hn=>?_)
 ·rcases List.mem_append.1 hx with hx | hx
  ·exact ko (fun x hx=>by rw [hG.size];exact hd x hx) x hx
  ·exact lD (fun y hy=>by obtain ⟨z,p,rfl,hz⟩:=e2 y hy;exact ⟨z,p,rfl,hz⟩) x hx
 ·have hst':eo X W n k (cF o.dst) ρ w (ρ.put k (us.flatMap cellsOf)) w':=⟨hst.same,hst.g,hst.good,fun j q g u _=>hst.cells j q g u (fun y hy=>by cases hy),fun J _=>hst.tight J (fun y hy=>by cases hy),hst.own,fun j x _=>hst.o j x (fun y hy=>by cases hy),fun j _=>hst.os j (fun y hy=>by cases hy)⟩
  exact frame hst' (fun t ht=>km t ht) x hx hk hn
theorem Zv {v:SV}{need:List It} (hi:ops[i]?=some o) (hw:Region.wanted o (yielded ops a.tmps)=true) (hm:m o.op=some xs) (hs:oU Φ P m s) (hsg:eE s=true) (ht:s.bz=false)
  (hv:dk k s=some v) (ha:dP st s.J xs s.args=some need) (hl:∀z,z ∈ need->z.holds Φ X ρ a w) (hG:Good X W n ρ a w) (hd:∀x,o.dst=some x->x<n)
  (hK:∀ρ' a' w',Good X W n ρ' a' w'->(∀x,x ∈ dO o.dst v ++ fh s.J k s.outs->x.holds Φ X ρ' a' w')->(∀x:It,x.holds Φ X ρ a w->(∀y,y ∈ cF o.dst->x.hit y=false)->k ∉ x.sts->x.holds Φ X ρ' a' w')->K a' w'):wpOp P ops Q i K a w:=by
 obtain ⟨u,w',hr,hgr,hu⟩:=hs (cf s.J X ρ) w a o xs (fun _ hk=>hG.below hk.own) hm (gw ha hl)
 obtain ⟨e1,e2⟩:=gu (ρ:=ρ) (k:=k) (l:=[u].flatMap cellsOf) (c:=0) hu hsg (fun j u hj=>by rw [Nat.zero_add];exact hj)
 have hev:u=v.ev (ρ.put k ([u].flatMap cellsOf)):=by
  unfold dk at hv
  rw [ht] at hv
  simp only [Bool.false_eq_true,if_false] at hv
  split at hv
  ·rename_i x hx
   simp only [Option.some.injEq] at hv
   subst hv
   rw [hx] at e1
   exact (congrArg (fun l:List Value=>l.headD undef) e1).symm
  ·cases hv
 refine kA hi hw (ρ.put k ([u].flatMap cellsOf)) v w' (.inl (by rw [<- hev];exact hr)) (mP k hgr) hG hd (fun x hx=>?_) (fun ρ' a' w' h1 h2 h3=>hK ρ' a' w' h1 h2 (fun x hx hk hn=>h3 x hx (fun y hy=>hk y (by simpa using hy)) hn))
 exact lD (fun y hy=>by obtain ⟨z,p,rfl,hz⟩:=e2 y hy;exact ⟨z,p,rfl,hz⟩) x hx
theorem Zw {v:SV}{need:List It} (hi:ops[i]?=some o) (hw:Region.wanted o (yielded ops a.tmps)=true) (hm:m o.op=some xs) (hs:EV Φ P m s) (hsg:eE s=true) (ht:s.bz=false)
  (hv:dk k s=some v) (ha:dP st s.J xs s.args=some need) (hl:∀z,z ∈ need->z.holds Φ X ρ a w) (hG:Good X W n ρ a w) (hd:∀x,o.dst=some x->x<n)
  (hK:∀ρ' a' w',Good X W n ρ' a' w'->(∀x,x ∈ dO o.dst v ++ facts k 0 s.outs->x.holds Φ X ρ' a' w')->(∀x:It,x.holds Φ X ρ a w->(∀y,y ∈ cF o.dst->x.hit y=false)->k ∉ x.sts->x.holds Φ X ρ' a' w')->K a' w'):wpOp P ops Q i K a w:=by
 obtain ⟨u,w',hr,hgr,hu⟩:=hs (cf s.J X ρ) w a o xs (fun _ hk=>hG.below hk.own) hm (gw ha hl)
 obtain ⟨e1,e2⟩:=gu (ρ:=ρ) (k:=k) (l:=[u].flatMap cellsOf) (c:=0) (hu (Own X ρ)) hsg (fun j u hj=>by rw [Nat.zero_add];exact hj)
 have hev:u=v.ev (ρ.put k ([u].flatMap cellsOf)):=by
  unfold dk at hv
  rw [ht] at hv
  simp only [Bool.false_eq_true,if_false] at hv
  split at hv
  ·rename_i x hx
   simp only [Option.some.injEq] at hv
   subst hv
   rw [hx] at e1
   exact (congrArg (fun l:List Value=>l.headD undef) e1).symm
  ·cases hv
 refine kA hi hw (ρ.put k ([u].flatMap cellsOf)) v w' (.inl (by rw [<- hev];exact hr)) (mP k hgr) hG hd (fun x hx=>?_) (fun ρ' a' w' h1 h2 h3=>hK ρ' a' w' h1 h2 (fun x hx hk hn=>h3 x hx (fun y hy=>hk y (by simpa using hy)) hn))
 obtain ⟨z,p,rfl,hz⟩:=e2 x hx
 exact hz
theorem cY (ρ:Env) (f:Nat->Nat->Prop) (x:Atom):x.ev { ρ with o:=f }=x.ev ρ:=by cases x <;> rfl
theorem C.cY (ρ:Env) (f:Nat->Nat->Prop) (x:C):x.ev { ρ with o:=f }=x.ev ρ:=by
 cases x with
 | one a=>exact Sym.cY ρ f a
 | agg l=>simp only [C.ev];rw [List.map_congr_left fun a _=>Sym.cY ρ f a]
theorem SV.cY (ρ:Env) (f:Nat->Nat->Prop) (x:SV):x.ev { ρ with o:=f }=x.ev ρ:=by
 cases x with
 | c x=>exact C.cY ρ f x
 | bz l=>simp only [SV.ev];rw [List.map_congr_left fun a _=>C.cY ρ f a]
def jr (j:Nat):SV->List It
 | .c (.one a)=>[.lo j a]
 | _=>[]
theorem Zx  (h:Good X W n ρ a w) (_:w.grownBy w' r) (hu:∀m,blk u=some m->m<w'.heap.size∧(ρ.o j m∨w.heap.size<=m)){m:Nat} (hi:2<=i) (hm:ρ.o i m∨(i=j∧blk u=some m)):W.drawn<=m:=by
 rcases hm with hm | ⟨rfl,hm⟩
 ·exact h.far.2 i m hi hm
 ·rcases (hu m hm).2 with h1 | h1
  ·exact h.far.2 i m hi h1
  ·exact Nat.le_trans h.far.1 h1
theorem rowOk.less {X Y:Nat->Prop}{w:World}{g sz:Nat} (h:∀k,Y k->X k):∀{l:List Nat}{o:Nat},rowOk Φ X w g sz o l->rowOk Φ Y w g sz o l
 | [],_,_=>trivial
 | _ :: _,_,⟨⟨l,h1,h2,h3⟩,h4⟩=>⟨⟨l,h1,h2,fun w1 hw=>h3 w1 (hw.wide h)⟩,rowOk.less h h4⟩
theorem Arg.ok.less {X Y:Nat->Prop}{w:World}{g:Arg}{v:Value} (h:∀k,Y k->X k) (ha:g.ok Φ X w v):g.ok Φ Y w v:=by
 cases g with
 | fact p=>exact fun w1 hw=>ha w1 (hw.wide h)
 | lit a=>exact ha
 | row sz ps=>obtain ⟨g,h1,h2⟩:=ha;exact ⟨g,h1,rowOk.less h h2⟩
 | parts sh fs=>exact ⟨ha.1,fun q hq w1 hw=>ha.2 q hq w1 (hw.wide h)⟩
 | any=>trivial
theorem cQ.less {X Y:Nat->Prop}{w:World} (h:∀k,Y k->X k):∀{l:List Arg}{vs:List Value},cQ Φ X w l vs->cQ Φ Y w l vs
 | [],[],_=>trivial
 | _ :: _,_ :: _,⟨h1,h2⟩=>⟨Arg.ok.less h h1,cQ.less h h2⟩
theorem rN {l:List Value} (g:w.grownBy w' r) (hL:∀m,r=some m->ρ.o j m) (hk:Kp w w')
  (hc:∀g o v,(∀h,r=some h->g≠h)->w.cell? ⟨g,o,none⟩=some v->w.frozen? ⟨g,o,none⟩=false->w'.cell? ⟨g,o,none⟩=some v∧w'.frozen? ⟨g,o,none⟩=false)
  (hu:∀m,blk u=some m->m<w'.heap.size∧(ρ.o j m∨w.heap.size<=m)){a0:Act} (hG:Good X W n ρ a0 w):eo X W n k [.loose j] ρ w { ρ.put k l with o:=fun i m=>ρ.o i m∨(i=j∧blk u=some m) } w':=by
 refine ⟨fun x hx=>(cY (ρ.put k l) _ x).trans (mM x hx),fun _ _=>rfl,fun a h=>⟨h.defers,h.size,?_,h.inj,fun i b hj=>⟨(h.lo i b hj).1,Nat.lt_of_lt_of_le (h.lo i b hj).2 g.size⟩,h.old,fun i m hm=>?_,fun i q m hg hm=>?_,fun i q m h1 h2=>?_,⟨Nat.le_trans h.far.1 g.size,fun i m hi hm=>Zx h g hu hi hm⟩⟩,fun i o b v _ hg h1 h2=>hc b o v (fun m hm e=>?_) h1 h2,fun J hJ=>⟨hk,fun m hm hx=>g.block m hm (fun e=>?_)⟩,fun J m hm h=>?_,fun _ _ _ _ _ h=>.inl h,fun _ _ _ h=>.inl h⟩
 ·cases r with
  | none=>exact aR h.grown g
  | some m=>exact cK h.grown g (h.loose j m (hL m rfl)).1
 ·rcases hm with hm | ⟨-,hm⟩
  ·exact ⟨(h.loose i m hm).1,Nat.lt_of_lt_of_le (h.loose i m hm).2 g.size⟩
  ·obtain ⟨h1,h2⟩:=hu m hm
   refine ⟨?_,h1⟩
   rcases h2 with h2 | h2
   ·exact (h.loose j m h2).1
   ·exact Nat.le_trans h.grown.size h2
 ·rcases hm with hm | ⟨-,hm⟩
  ·exact h.apart i q m hg hm
  ·rcases (hu m hm).2 with h2 | h2
   ·exact h.apart j q m hg h2
   ·have:=(h.lo q m hg).2;omega
 ·have key:∀i,(ρ.o i m∨(i=j∧blk u=some m))->blk u=some m->i=j:=fun i h1 h3=>by
   rcases h1 with h1 | ⟨h1,-⟩
   ·rcases (hu m h3).2 with h4 | h4
    ·exact h.one i j m h1 h4
    ·have:=(h.loose i m h1).2;omega
   ·exact h1
  rcases h1 with h1 | h1
  ·rcases h2 with h2 | h2
   ·exact h.one i q m h1 h2
   ·rw [key i (.inl h1) h2.2,h2.1]
  ·rw [h1.1,key q h2 h1.2]
 ·subst e
  exact hG.apart j i b hg (hL b hm)
 ·exact hx (.inr (.inr ⟨j,fun hj=>by have:=hJ _ (List.mem_singleton.2 rfl);simp [It.hit] at this;exact this hj,hL m e.symm⟩))
 ·rcases h with h | h | ⟨i,h1,h2⟩
  ·exact .inl h
  ·exact .inr (.inl h)
  ·refine .inr (.inr ⟨i,h1,?_⟩)
   rcases h2 with h2 | ⟨rfl,h2⟩
   ·exact h2
   ·rcases (hu m h2).2 with h4 | h4
    ·exact h4
    ·omega
theorem Zy {n0:List It}{v:SV}{need:List It} (hi:ops[i]?=some o) (hw:Region.wanted o (yielded ops a.tmps)=true) (hm:m o.op=some xs) (hs:ET Φ P ix m s){kC:List It} (hJ':s.J=j :: J') (hjJ:j ∉ J') (ha2:dP st J' xs (s.args.set ix .any)=some kC) (hln:∀z,z ∈ kC->z.holds Φ X ρ a w) (hJ:j ∈ s.J) (hsg:eE s=true) (ht:s.bz=false)
  (hv:dk k s=some v) (ha:dP st s.J xs s.args=some need) (hx0:xs[ix]?=some x0) (hv0:val st x0=some (.c (.one a0),n0)) (hl:∀z,z ∈ need->z.holds Φ X ρ a w) (hl0:∀z,z ∈ n0->z.holds Φ X ρ a w) (hlo:∀g,blk (a0.ev ρ)=some g->ρ.o j g) (hG:Good X W n ρ a w) (hd:∀x,o.dst=some x->x<n)
  (hK:∀ρ' a' w',Good X W n ρ' a' w'->(∀x,x ∈ dO o.dst v ++ (fh s.J k s.outs ++ jr j v)->x.holds Φ X ρ' a' w')->(∀x:It,x.holds Φ X ρ a w->(∀y,y ∈ cF o.dst ++ [.loose j]->x.hit y=false)->k ∉ x.sts->x.holds Φ X ρ' a' w')->K a' w'):wpOp P ops Q i K a w:=by
 obtain ⟨u,w',r,hr,hgr,hL,hkp,hc,hu,ho⟩:=hs (cf s.J X ρ) (ρ.o j) w a o xs (fun _ hk=>hG.below hk.own) (fun g hg=>(hG.loose j g hg).2) (fun g hg h=>by
  rcases h with h | ⟨q,h⟩ | ⟨q,h1,h2⟩
  ·have:=hG.old g h
   have:=(hG.loose j g hg).1
   omega
  ·exact hG.apart j q g h hg
  ·exact h1 (hG.one q j g h2 hg▸hJ)) hm (gw ha hl) (fun x g hx hg=>by
   rw [hx0] at hx
   obtain rfl:=Option.some.inj hx
   rw [val_ok hv0 hl0] at hg
   exact hlo g hg) (cQ.less (fun m hm=>by
   rcases hm with hm | hm
   ·rcases hm with h | h | ⟨q,h1,h2⟩
    ·exact .inl h
    ·exact .inr (.inl h)
    ·exact .inr (.inr ⟨q,fun h=>h1 (hJ'▸List.mem_cons_of_mem _ h),h2⟩)
   ·exact .inr (.inr ⟨j,hjJ,hm⟩)) (gw ha2 hln))
 obtain ⟨e1,e2⟩:=gu (ρ:=ρ) (k:=k) (l:=[u].flatMap cellsOf) (c:=0) ho hsg (fun j u hj=>by rw [Nat.zero_add];exact hj)
 have hev:u=v.ev (ρ.put k ([u].flatMap cellsOf)):=by
  unfold dk at hv
  rw [ht] at hv
  simp only [Bool.false_eq_true,if_false] at hv
  split at hv
  ·rename_i x hx
   simp only [Option.some.injEq] at hv
   subst hv
   rw [hx] at e1
   exact (congrArg (fun l:List Value=>l.headD undef) e1).symm
  ·cases hv
 have hst:=rN (k:=k) (l:=[u].flatMap cellsOf) hgr hL hkp hc hu hG
 have fZ:=hev.trans (SV.cY (ρ.put k ([u].flatMap cellsOf)) (fun i m=>ρ.o i m∨(i=j∧blk u=some m)) v).symm
 refine kA hi hw _ v w' (.inl (by rw [<- fZ];exact hr)) hst hG hd (fun x hx=>?_) hK
 rcases List.mem_append.1 hx with hx | hx
 ·refine lD (fun y hy=>?_) x hx
  obtain ⟨z,p,rfl,hz⟩:=e2 y hy
  refine ⟨z,p,rfl,fun w1 hw1=>?_⟩
  rw [C.cY]
  refine hz w1 (hw1.wide fun m h=>?_)
  rcases h with h | h | ⟨i,h1,h2⟩
  ·exact .inl h
  ·exact .inr (.inl h)
  ·refine .inr (.inr ⟨i,h1,?_⟩)
   rcases h2 with h2 | ⟨rfl,-⟩
   ·exact h2
   ·exact absurd hJ h1
 ·match v,hx,fZ with
  | .c (.agg _),hx,_=>cases hx
  | .bz _,hx,_=>cases hx
  | .c (.one y),hx,fZ=>
   simp only [jr,List.mem_singleton] at hx
   subst hx
   intro g hg
   have e:y.ev { ρ.put k ([u].flatMap cellsOf) with o:=fun i m=>ρ.o i m∨(i=j∧blk u=some m) }=u:=fZ.symm
   rw [e] at hg
   exact .inr ⟨rfl,hg⟩
def lE (J:List Nat) (x:C) (p:Nat):It:=if J = [] then .fact x p else .held J x p
theorem rO {J:List Nat}{y:C} (h:∀w1,Off (cf J X ρ) w w1->Φ p w1 (y.ev ρ)):(lE J y p).holds Φ X ρ a w:=by
 unfold lE
 split
 ·rename_i e
  subst e;exact h
 ·exact h
def iY (st:List It):List Operand->Option (List Atom×List It)
 | []=>some ([],[])
 | x :: xs=>match val st x,iY st xs with
  | some (.c (.one a),n),some (ats,m)=>some (a :: ats,n ++ m)
  | _,_=>none
theorem mQ {ρ:Env}{a:Act}{w:World}:∀{xs:List Operand}{ats:List Atom}{n:List It},iY st xs=some (ats,n)->(∀z,z ∈ n->z.holds Φ X ρ a w)->xs.map a.eval=ats.map (Atom.ev ρ)
 | [],ats,n,h,_=>by simp [iY] at h;obtain ⟨rfl,rfl⟩:=h;rfl
 | x :: xs,ats,n,h,hl=>by
  simp only [iY] at h
  split at h
  ·rename_i b n1 bs m1 h1 h2
   simp only [Option.some.injEq,Prod.mk.injEq] at h
   obtain ⟨rfl,rfl⟩:=h
   rw [List.map_cons,List.map_cons,val_ok h1 (bF hl),mQ h2 (bf hl)];rfl
  ·cases h
theorem Zz {n0:List It}{y:Atom}{need:List It} (hi:ops[i]?=some o) (hw:Region.wanted o (yielded ops a.tmps)=true) (hm:m o.op=some xs) (hs:EU Φ P p m s) (hsg:eE s=true) (ht:s.bz=false)
  (hv:dk k s=some (.c (.one y))) (ha:dP st s.J xs s.args=some need) (hon:iY st xs=some (ats,n0)) (hall:ats.all (fun x=>x.st != some k)=true) (hl:∀z,z ∈ need->z.holds Φ X ρ a w) (hl0:∀z,z ∈ n0->z.holds Φ X ρ a w) (hG:Good X W n ρ a w) (hd:∀x,o.dst=some x->x<n)
  (hK:∀ρ' a' w',Good X W n ρ' a' w'->(∀x,x ∈ dO o.dst (.c (.one y)) ++ (fh s.J k s.outs ++ [lE s.J (.agg (ats ++ [y])) p])->x.holds Φ X ρ' a' w')->(∀x:It,x.holds Φ X ρ a w->(∀y,y ∈ cF o.dst->x.hit y=false)->k ∉ x.sts->x.holds Φ X ρ' a' w')->K a' w'):wpOp P ops Q i K a w:=by
 obtain ⟨u,w',hr,hgr,hu,hj⟩:=hs (cf s.J X ρ) w a o xs (fun _ hk=>hG.below hk.own) hm (gw ha hl)
 obtain ⟨e1,e2⟩:=gu (ρ:=ρ) (k:=k) (l:=[u].flatMap cellsOf) (c:=0) hu hsg (fun j u hj=>by rw [Nat.zero_add];exact hj)
 have hev:u=y.ev (ρ.put k ([u].flatMap cellsOf)):=by
  unfold dk at hv
  rw [ht] at hv
  simp only [Bool.false_eq_true,if_false] at hv
  split at hv
  ·rename_i x hx
   simp only [Option.some.injEq,SV.c.injEq] at hv
   subst hv
   rw [hx] at e1
   exact (congrArg (fun l:List Value=>l.headD undef) e1).symm
  ·cases hv
 refine kA hi hw (ρ.put k ([u].flatMap cellsOf)) (.c (.one y)) w' (.inl (by rw [show SV.ev (ρ.put k ([u].flatMap cellsOf)) (.c (.one y))=u from hev.symm];exact hr)) (mP k hgr) hG hd (fun x hx=>?_) (fun ρ' a' w' h1 h2 h3=>hK ρ' a' w' h1 h2 (fun x hx hk hn=>h3 x hx (fun y hy=>hk y (by simpa using hy)) hn))
 rcases List.mem_append.1 hx with hx | hx
 ·exact lD (fun y hy=>by obtain ⟨z,p,rfl,hz⟩:=e2 y hy;exact ⟨z,p,rfl,hz⟩) x hx
 ·rw [List.mem_singleton.1 hx]
  refine rO fun w1 hw1=>?_
  have e:(ats ++ [y]).map (Atom.ev (ρ.put k ([u].flatMap cellsOf)))=xs.map a.eval ++ [u]:=by
   rw [List.map_append,mQ hon hl0]
   congr 1
   ·exact List.map_congr_left fun z hz=>mM z (by have:=List.all_eq_true.1 hall z hz;simpa using this)
   ·exact congrArg (fun z=>[z]) hev.symm
  show Φ p w1 (.agg ((ats ++ [y]).map _).toArray)
  rw [e]
  exact hj w1 hw1
def pe (J:List Nat) (a:Atom) (os:List Out):List It:=match os with
 | [o]=>o.fs.map fun q=>lE J (bm q.1 q.2.1 (.one a)) q.2.2
 | _=>[]
theorem Fi {n0:List It}{w:World} (hon:iY st xs=some (ats,n0)) (hl0:∀z,z ∈ n0->z.holds Φ X ρ a w) (ha0:ats[ix]?=some a0) (hx:xs[ix]?=some x):a.eval x=a0.ev ρ:=by
 have h1:(xs.map a.eval)[ix]?=some (a.eval x):=by rw [List.getElem?_map,hx];rfl
 rw [mQ hon hl0,List.getElem?_map,ha0] at h1
 exact (Option.some.inj h1).symm
theorem Fj {n0:List It} (hi:ops[i]?=some o) (hw:Region.wanted o (yielded ops a.tmps)=true) (hs:(∀g,ρ.o j g->¬cf s.J X ρ g)->∃w' r,(execOp a.eval o).run P w = .ok .skip w'∧w.grownBy w' r∧(∀g,r=some g->ρ.o j g)∧Kp w w'∧(∀g o v,(∀h,r=some h->g≠h)->w.cell? ⟨g,o,none⟩=some v->w.frozen? ⟨g,o,none⟩=false->w'.cell? ⟨g,o,none⟩=some v∧w'.frozen? ⟨g,o,none⟩=false)∧∀x,xs.dropLast[ix]?=some x->ch Φ (cf s.J X ρ) w' s.outs [a.eval x]) (hJ:j ∈ s.J) (hdst:o.dst=none)
  (hon:iY st xs.dropLast=some (ats,n0)) (hall:ats.all (fun x=>x.st != some k)=true) (ha0:ats[ix]?=some a0) (hl0:∀z,z ∈ n0->z.holds Φ X ρ a w) (hlo:(It.lo j a0).holds Φ X ρ a w) (hG:Good X W n ρ a w)
  (hK:∀ρ' a' w',Good X W n ρ' a' w'->(∀x,x ∈ pe s.J a0 s.outs->x.holds Φ X ρ' a' w')->(∀x:It,x.holds Φ X ρ a w->(∀y,y ∈ [Key.loose j]->x.hit y=false)->k ∉ x.sts->x.holds Φ X ρ' a' w')->K a' w'):wpOp P ops Q i K a w:=by
 have he:=mQ hon hl0
 have hx0:∀x,xs.dropLast[ix]?=some x->a.eval x=a0.ev ρ:=fun x hx=>by
  have h1:(xs.dropLast.map a.eval)[ix]?=some (a.eval x):=by rw [List.getElem?_map,hx];rfl
  rw [he,List.getElem?_map,ha0] at h1
  exact (Option.some.inj h1).symm
 obtain ⟨w',r,hr,hgr,hL,hkp,hc,ho⟩:=hs (fun g hg h=>by
  rcases h with h | ⟨q,h⟩ | ⟨q,h1,h2⟩
  ·have:=hG.old g h
   have:=(hG.loose j g hg).1
   omega
  ·exact hG.apart j q g h hg
  ·exact h1 (hG.one q j g h2 hg▸hJ))
 have hst:=rN (k:=k) (l:=[]) (u:=undef) (j:=j) hgr hL hkp hc (fun m hm=>by cases hm) hG
 refine kA hi hw _ (.c (.one .un)) w' (.inr ⟨hr,hdst⟩) hst hG (fun x hx=>by rw [hdst] at hx;cases hx) (add:=pe s.J a0 s.outs) (fun x hx=>?_) (fun ρ' a' w' h1 h2 h3=>hK ρ' a' w' h1 (fun x hx=>h2 x (List.mem_append_right _ hx)) (fun x hx hk hn=>h3 x hx (fun y hy=>hk y (by rw [hdst] at hy;simpa [cF] using hy)) hn))
 unfold pe at hx
 split at hx
 ·rename_i q hq
  obtain ⟨z,hz,rfl⟩:=List.mem_map.1 hx
  obtain ⟨x0,hx0'⟩:∃x0,xs.dropLast[ix]?=some x0:=by
   have:ix<xs.dropLast.length:=by
    have h1:=(List.getElem?_eq_some_iff.1 ha0).1
    have h2:=congrArg List.length he
    simp only [List.length_map] at h2
    omega
   exact ⟨_,List.getElem?_eq_getElem this⟩
  have h4:=ho x0 hx0'
  rw [hq,hx0 x0 hx0'] at h4
  refine rO fun w1 hw1=>?_
  rw [C.cY]
  have h5:=h4.1.2 z hz w1 (hw1.wide fun m h=>by
   rcases h with h | h | ⟨i,h1,h2⟩
   ·exact .inl h
   ·exact .inr (.inl h)
   ·refine .inr (.inr ⟨i,h1,?_⟩)
    rcases h2 with h2 | ⟨rfl,-⟩
    ·exact h2
    ·exact absurd hJ h1)
  have hs0:a0.st≠some k:=by
   have:=List.all_eq_true.1 hall a0 (List.mem_of_getElem? ha0)
   simpa using this
  rw [mL]
  have e:(C.one a0).ev (ρ.put k [])=a0.ev ρ:=mM a0 hs0
  rw [e]
  exact h5
 ·cases hx
theorem rP {more:List Key}{ρ':Env} (h:eo X W n k kill ρ w ρ' w'):eo X W n k (more ++ kill) ρ w ρ' w':=
 ⟨h.same,h.g,h.good,fun j q g u hk=>h.cells j q g u fun y hy=>hk y (List.mem_append_right _ hy),fun J hJ=>h.tight J fun y hy=>hJ y (List.mem_append_right _ hy),h.own,fun j x hk=>h.o j x (fun y hy=>hk y (List.mem_append_right _ hy)),fun j hk=>h.os j (fun y hy=>hk y (List.mem_append_right _ hy))⟩
theorem Fk {J:List Nat}{l:List Value} (hJ:j ∈ J) (e2:∀y,y ∈ facts k 0 os->∃x p,y = .fact x p∧∀w1,Off (cf J X ρ) w w1->Φ p w1 (x.ev (ρ.put k l))) (x:It) (hx:x ∈ fh J k os):x.holds Φ X { ρ.put k l with o:=fun i m=>ρ.o i m∨(i=j∧blk u=some m) } a w:=by
 refine lD (fun y hy=>?_) x hx
 obtain ⟨z,p,rfl,hz⟩:=e2 y hy
 refine ⟨z,p,rfl,fun w1 hw1=>?_⟩
 rw [C.cY]
 refine hz w1 (hw1.wide fun m h=>?_)
 rcases h with h | h | ⟨i,h1,h2⟩
 ·exact .inl h
 ·exact .inr (.inl h)
 ·refine .inr (.inr ⟨i,h1,?_⟩)
  rcases h2 with h2 | ⟨rfl,-⟩
  ·exact h2
  ·exact absurd hJ h1
theorem ZA {v:SV}{need:List It} (hi:ops[i]?=some o) (hw:Region.wanted o (yielded ops a.tmps)=true) (ho:o.op = .call c) (hc:c.callee = .value x0) (hx0:a.eval x0 = .func (.func s.f) #[] #[]) (hf:fI P s.f=true) (hs:eY Φ P s) (hJ:j ∈ s.J) (hsg:eE s=true) (ht:s.bz=false)
  (hv:dk k s=some v) (ha:dP st s.J c.args.toList s.args=some need) (hl:∀z,z ∈ need->z.holds Φ X ρ a w) (hG:Good X W n ρ a w) (hd:∀x,o.dst=some x->x<n)
  (hK:∀ρ' a' w',Good X W n ρ' a' w'->(∀x,x ∈ dO o.dst v ++ (fh s.J k s.outs ++ jr j v)->x.holds Φ X ρ' a' w')->(∀x:It,x.holds Φ X ρ a w->(∀y,y ∈ cF o.dst ++ [.loose j]->x.hit y=false)->k ∉ x.sts->x.holds Φ X ρ' a' w')->K a' w'):wpOp P ops Q i K a w:=by
 unfold wpOp
 simp only [hi,hw,if_true]
 refine .inl ?_
 unfold Oper.wp
 rw [pc ho hc hx0 hf]
 have hargs:(c.args.map a.eval)=(c.args.toList.map a.eval).toArray:=by apply Array.ext';simp
 simp only [Oper.upon]
 rw [hargs]
 refine (hs (cf s.J X ρ) w _ (fun m hm=>hG.below hm.own) (gw ha hl)).mono fun e w' ⟨hg,u,he,hus,hu⟩=>?_
 subst he
 obtain ⟨e1,e2⟩:=gu (ρ:=ρ) (k:=k) (l:=[u].flatMap cellsOf) (c:=0) hus hsg (fun j u hj=>by rw [Nat.zero_add];exact hj)
 have hev:u=v.ev (ρ.put k ([u].flatMap cellsOf)):=by
  unfold dk at hv
  rw [ht] at hv
  simp only [Bool.false_eq_true,if_false] at hv
  split at hv
  ·rename_i x hx
   simp only [Option.some.injEq] at hv
   subst hv
   rw [hx] at e1
   exact (congrArg (fun l:List Value=>l.headD undef) e1).symm
  ·cases hv
 have hst:=rN (k:=k) (l:=[u].flatMap cellsOf) (j:=j) (u:=u) (r:=none) hg (fun m hm=>by cases hm) (Kp.of hg) (fun g o v _ h4 h5=>⟨cell_grown hg h4,gz hg h4 h5⟩) (fun m hm=>⟨(hu m hm).2,.inr (hu m hm).1⟩) hG
 have fZ:=hev.trans (SV.cY (ρ.put k ([u].flatMap cellsOf)) (fun i m=>ρ.o i m∨(i=j∧blk u=some m)) v).symm
 show K (a.put o.dst u) w'
 have hput:a.put o.dst u=a.put o.dst (v.ev { ρ.put k ([u].flatMap cellsOf) with o:=fun i m=>ρ.o i m∨(i=j∧blk u=some m) }):=congrArg _ fZ
 rw [hput]
 refine hK _ _ w' (kw (hst.good a hG)) (fun x hx=>?_) (fun x hx hk hn=>frame (rP (more:=cF o.dst) hst) (fun t ht=>km t (fun y hy=>ht y (List.mem_append_left _ hy))) x hx hk hn)
 rcases List.mem_append.1 hx with hx | hx
 ·exact ko (fun x hx=>by rw [hG.size];exact hd x hx) x hx
 rcases List.mem_append.1 hx with hx | hx
 ·exact Fk hJ e2 x hx
 ·match v,hx,fZ with
  | .c (.agg _),hx,_=>cases hx
  | .bz _,hx,_=>cases hx
  | .c (.one y),hx,fZ=>
   simp only [jr,List.mem_singleton] at hx
   subst hx
   intro g hg
   have e:y.ev { ρ.put k ([u].flatMap cellsOf) with o:=fun i m=>ρ.o i m∨(i=j∧blk u=some m) }=u:=fZ.symm
   rw [e] at hg
   exact .inr ⟨rfl,hg⟩
theorem ZB {v:SV}{need:List It}{n0:List It} (hi:ops[i]?=some o) (hw:Region.wanted o (yielded ops a.tmps)=true) (ho:o.op = .call c) (hc:c.callee = .value x0) (hx0:a.eval x0 = .func (.func s.f) #[] #[]) (hf:fI P s.f=true) (hs:wk Φ P ix s) (hJ:j ∈ s.J) (hsg:eE s=true) (ht:s.bz=false)
  (hx1:c.args.toList[ix]?=some x1) (hv1:val st x1=some (.c (.one a0),n0)) (hl0:∀z,z ∈ n0->z.holds Φ X ρ a w) (hlo:(It.lo j a0).holds Φ X ρ a w) (hv:dk k s=some v) (ha:dP st s.J c.args.toList s.args=some need) (hl:∀z,z ∈ need->z.holds Φ X ρ a w) (hG:Good X W n ρ a w) (hd:∀x,o.dst=some x->x<n)
  (hK:∀ρ' a' w',Good X W n ρ' a' w'->(∀x,x ∈ dO o.dst v ++ (fh s.J k s.outs ++ jr j v)->x.holds Φ X ρ' a' w')->(∀x:It,x.holds Φ X ρ a w->(∀y,y ∈ cF o.dst ++ [.loose j]->x.hit y=false)->k ∉ x.sts->x.holds Φ X ρ' a' w')->K a' w'):wpOp P ops Q i K a w:=by
 unfold wpOp
 simp only [hi,hw,if_true]
 refine .inl ?_
 unfold Oper.wp
 rw [pc ho hc hx0 hf]
 have hargs:(c.args.map a.eval)=(c.args.toList.map a.eval).toArray:=by apply Array.ext';simp
 simp only [Oper.upon]
 rw [hargs]
 have he1:a.eval x1=a0.ev ρ:=val_ok hv1 hl0
 have hat:∀x,(c.args.toList.map a.eval)[ix]?=some x->x=a0.ev ρ:=fun x hx=>by
  rw [List.getElem?_map,hx1] at hx
  exact (Option.some.inj hx).symm.trans he1
 refine (hs (cf s.J X ρ) (ρ.o j) w _ (fun m hm=>hG.below hm.own) (fun k hk=>(hG.loose j k hk).2) (fun g hg h=>by
  rcases h with h | ⟨q,h⟩ | ⟨q,h1,h2⟩
  ·have:=hG.old g h
   have:=(hG.loose j g hg).1
   omega
  ·exact hG.apart j q g h hg
  ·exact h1 (hG.one q j g h2 hg▸hJ)) (gw ha hl) (fun x g hx hg=>by rw [hat x hx] at hg;exact hlo g hg)).mono fun e w' ⟨hg,u,he,hus,hu⟩=>?_
 subst he
 obtain ⟨e1,e2⟩:=gu (ρ:=ρ) (k:=k) (l:=[u].flatMap cellsOf) (c:=0) hus hsg (fun j u hj=>by rw [Nat.zero_add];exact hj)
 have hev:u=v.ev (ρ.put k ([u].flatMap cellsOf)):=by
  unfold dk at hv
  rw [ht] at hv
  simp only [Bool.false_eq_true,if_false] at hv
  split at hv
  ·rename_i x hx
   simp only [Option.some.injEq] at hv
   subst hv
   rw [hx] at e1
   exact (congrArg (fun l:List Value=>l.headD undef) e1).symm
  ·cases hv
 have hst:=rN (k:=k) (l:=[u].flatMap cellsOf) (j:=j) (u:=u) (r:=none) hg (fun m hm=>by cases hm) (Kp.of hg) (fun g o v _ h4 h5=>⟨cell_grown hg h4,gz hg h4 h5⟩) (fun m hm=>hu m hm) hG
 have fZ:=hev.trans (SV.cY (ρ.put k ([u].flatMap cellsOf)) (fun i m=>ρ.o i m∨(i=j∧blk u=some m)) v).symm
 show K (a.put o.dst u) w'
 have hput:a.put o.dst u=a.put o.dst (v.ev { ρ.put k ([u].flatMap cellsOf) with o:=fun i m=>ρ.o i m∨(i=j∧blk u=some m) }):=congrArg _ fZ
 rw [hput]
 refine hK _ _ w' (kw (hst.good a hG)) (fun x hx=>?_) (fun x hx hk hn=>frame (rP (more:=cF o.dst) hst) (fun t ht=>km t (fun y hy=>ht y (List.mem_append_left _ hy))) x hx hk hn)
 rcases List.mem_append.1 hx with hx | hx
 ·exact ko (fun x hx=>by rw [hG.size];exact hd x hx) x hx
 rcases List.mem_append.1 hx with hx | hx
 ·exact Fk hJ e2 x hx
 ·match v,hx,fZ with
  | .c (.agg _),hx,_=>cases hx
  | .bz _,hx,_=>cases hx
  | .c (.one y),hx,fZ=>
   simp only [jr,List.mem_singleton] at hx
   subst hx
   intro g hg
   have e:y.ev { ρ.put k ([u].flatMap cellsOf) with o:=fun i m=>ρ.o i m∨(i=j∧blk u=some m) }=u:=fZ.symm
   rw [e] at hg
   exact .inr ⟨rfl,hg⟩
end
variable {y:C}
def mR (J:List Nat) (a:Atom):It:=match J with
 | [j]=>.lo j a
 | _=>.dV J a
theorem ZE {w:World}{J:List Nat}{x:Atom} (h:(mR J x).holds Φ X ρ a w) (g:Nat) (hg:blk (x.ev ρ)=some g):∃j,j ∈ J∧ρ.o j g:=by
 unfold mR at h
 split at h
 ·exact ⟨_,List.mem_cons_self ..,h g hg⟩
 ·exact h g hg
theorem ZF {J:List Nat}{x:Atom} (h:∀g,blk (x.ev ρ)=some g->∃j,j ∈ J∧ρ.o j g):(mR J x).holds Φ X ρ a w:=by
 unfold mR
 split
 ·intro g hg
  obtain ⟨j,h1,h2⟩:=h g hg
  rw [List.mem_singleton.1 h1] at h2
  exact h2
 ·exact h
def Fl (st:List It) (J:List Nat) (x:Operand):Option (List It):=if J.isEmpty then some [] else match val st x with
 | some (.c (.one a0),n0)=>some (n0 ++ [mR J a0])
 | _=>none
def il (st:List It) (J:List Nat):List (List Nat×List Nat)->List Operand->List Arg->Option (List It)
 | [],[],[]=>some []
 | a :: ag,x :: xs,g :: gs=>if a.1.all J.contains then (match lC st a.1 x g,Fl st a.2 x,il st J ag xs gs with
  | some l,some m,some r=>some (l ++ (m ++ r))
  | _,_,_=>none) else none
 | _,_,_=>none
def wt (js:List Nat):SV->List It
 | .c (.one a)=>[mR js a]
 | _=>[]
section
variable {P:Program}{ops:Array Oper}{st:List It}
theorem wu {J:List Nat}{ρ:Env}{a:Act}{w:World}:∀{ag:List (List Nat×List Nat)}{xs:List Operand}{gs:List Arg}{need:List It},il st J ag xs gs=some need->(∀z,z ∈ need->z.holds Φ X ρ a w)->rL Φ (cf J X ρ) ρ.o J w ag gs (xs.map a.eval)
 | [],[],[],_,_,_=>trivial
 | b :: ag,x :: xs,g :: gs,need,h,hl=>by
  simp only [il] at h
  split at h
  case isFalse=>cases h
  rename_i hsub
  split at h
  case h_2=>cases h
  rename_i l m r h1 h2 h3
  simp only [Option.some.injEq] at h
  subst h
  have ZG:∀j,j ∈ b.1->j ∈ J:=fun j hj=>by simpa using List.all_eq_true.1 hsub j hj
  refine ⟨⟨Arg.ok.less (fun q hq=>?_) (Fh h1 (bF hl)),fun hne c hc=>?_⟩,wu h3 (bf (bf hl))⟩
  ·rcases hq with hq | ⟨j,-,h5,h6⟩
   ·exact hq.less ZG
   ·exact .inr (.inr ⟨j,h5,h6⟩)
  ·unfold Fl at h2
   split at h2
   ·rename_i he
    exact absurd (List.isEmpty_iff.1 he) hne
   ·split at h2
    case h_2=>cases h2
    rename_i a0 n0 hv
    simp only [Option.some.injEq] at h2
    subst h2
    have hl2:=bF (bf hl)
    rw [val_ok hv (bF hl2)] at hc
    exact ZE (hl2 _ (by simp)) c hc
 | [],[],_ :: _,_,h,_=>by simp [il] at h
 | [],_ :: _,_,_,h,_=>by simp [il] at h
 | _ :: _,[],_,_,h,_=>by simp [il] at h
 | _ :: _,_ :: _,[],_,h,_=>by simp [il] at h
theorem ZH {l:List Value} (h:Wr w w' (fun k=>∃j,j ∈ js∧ρ.o j k)){a0:Act} (hG:Good X W n ρ a0 w):eo X W n k (js.map .loose) ρ w (ρ.put k l) w':=by
 obtain ⟨⟨h1,h2,h3⟩,hk,hb⟩:=h
 refine ⟨fun x hx=>mM x hx,fun _ _=>rfl,fun a h=>⟨h.defers,h.size,?_,h.inj,fun i b hj=>⟨(h.lo i b hj).1,Nat.lt_of_lt_of_le (h.lo i b hj).2 hk.1⟩,h.old,fun i m hm=>⟨(h.loose i m hm).1,Nat.lt_of_lt_of_le (h.loose i m hm).2 hk.1⟩,h.apart,h.one,⟨Nat.le_trans h.far.1 hk.1,h.far.2⟩⟩,fun i o b v _ hg h4 h5=>?_,fun J hJ=>⟨hk,fun m hm hx=>hb m hm fun ⟨j,hj,ho⟩=>hx (.inr (.inr ⟨j,fun hc=>?_,ho⟩))⟩,fun _ _ _ h=>h,fun _ _ _ _ _ h=>h,fun _ _ _ h=>h⟩
 ·exact ⟨h1.trans h.grown.os,h2.trans h.grown.tape,h3.trans h.grown.output,Nat.le_trans h.grown.size hk.1,fun m hm hn=>(hb m (Nat.lt_of_lt_of_le hm h.grown.size) fun ⟨j,_,ho⟩=>by have:=(h.loose j m ho).1;omega).trans (h.grown.block m hm hn)⟩
 ·have hbk:=hb b (World.block_lt_of_cell? _ _ h4) fun ⟨j,_,ho⟩=>hG.apart j i b hg ho
  refine ⟨by rw [World.cell?_of_block hbk];exact h4,?_⟩
  simp only [World.frozen?,hbk] at h5 ⊢
  exact h5
 ·have:=hJ _ (List.mem_map.2 ⟨j,hj,rfl⟩)
  simp [It.hit] at this
  exact this hc
theorem ZI {v:SV}{need:List It}{J:List Nat}{ag:List (List Nat×List Nat)} (hi:ops[i]?=some o) (hw:Region.wanted o (yielded ops a.tmps)=true) (ho:o.op = .call c) (hc:c.callee = .value x0) (hx0:a.eval x0 = .func (.func s.f) #[] #[]) (hf:fI P s.f=true) (hs:wl Φ P J js ag s) (hsg:eE s=true)
  (hv:dk k s=some v) (ha:il st J ag c.args.toList s.args=some need) (hl:∀z,z ∈ need->z.holds Φ X ρ a w) (hG:Good X W n ρ a w) (hd:∀x,o.dst=some x->x<n)
  (hK:∀ρ' a' w',Good X W n ρ' a' w'->(∀x,x ∈ dO o.dst v ++ (fh js k s.outs ++ wt js v)->x.holds Φ X ρ' a' w')->(∀x:It,x.holds Φ X ρ a w->(∀y,y ∈ cF o.dst ++ js.map .loose->x.hit y=false)->k ∉ x.sts->x.holds Φ X ρ' a' w')->K a' w'):wpOp P ops Q i K a w:=by
 unfold wpOp
 simp only [hi,hw,if_true]
 refine .inl ?_
 unfold Oper.wp
 rw [pc ho hc hx0 hf]
 have hargs:(c.args.map a.eval)=(c.args.toList.map a.eval).toArray:=by apply Array.ext';simp
 simp only [Oper.upon]
 rw [hargs]
 refine (hs (cf J X ρ) ρ.o W w _ hG.grown (fun m hm=>hG.below hm.own) (fun j k hk=>hG.loose j k hk) (fun j g hj hg h=>?_) hG.one (wu ha hl)).mono fun e w' ⟨us,he,hwr,hou,hlo⟩=>?_
 ·rcases h with h | ⟨q,h⟩ | ⟨q,h1,h2⟩
  ·have:=hG.old g h
   have:=(hG.loose j g hg).1
   omega
  ·exact hG.apart j q g h hg
  ·exact h1 (hG.one q j g h2 hg▸hj)
 subst he
 have hst:=ZH (k:=k) (l:=us.flatMap cellsOf) hwr hG
 obtain ⟨e1,e2⟩:=gu (ρ:=ρ) (k:=k) (l:=us.flatMap cellsOf) (c:=0) hou (by simpa [eE] using hsg) (fun j v hj=>by simpa using hj)
 have hev:(if s.bz then Value.tuple us.toArray else us.headD undef)=v.ev (ρ.put k (us.flatMap cellsOf)):=by
  unfold dk at hv
  split at hv
  ·rename_i ht
   simp only [Option.some.injEq] at hv
   subst hv
   rw [if_pos ht,SV.ev,e1]
  ·rename_i ht
   rw [if_neg ht]
   split at hv
   ·rename_i x hx
    simp only [Option.some.injEq] at hv
    subst hv
    rw [hx] at e1
    exact (congrArg (fun l:List Value=>l.headD undef) e1).symm
   ·cases hv
 show K (a.put o.dst (if s.bz then Value.tuple us.toArray else us.headD undef)) w'
 rw [hev]
 refine hK _ _ w' (kw (hst.good a hG)) (fun x hx=>?_) (fun x hx hk hn=>frame (rP (more:=cF o.dst) hst) (fun t ht=>km t (fun y hy=>ht y (List.mem_append_left _ hy))) x hx hk hn)
 rcases List.mem_append.1 hx with hx | hx
 ·exact ko (fun x hx=>by rw [hG.size];exact hd x hx) x hx
 rcases List.mem_append.1 hx with hx | hx
 ·refine lD (X:=X) (fun y hy=>?_) x hx
  obtain ⟨z,p,rfl,hz⟩:=e2 y hy
  refine ⟨z,p,rfl,fun w1 hw1=>hz w1 (hw1.wide fun m hm=>?_)⟩
  rcases hm with hm | hm | ⟨q,h1,h2⟩
  ·exact .inl (.inl hm)
  ·exact .inl (.inr (.inl hm))
  ·by_cases hq:q ∈ J
   ·exact .inr ⟨q,hq,h1,h2⟩
   ·exact .inl (.inr (.inr ⟨q,hq,h2⟩))
 ·unfold wt at hx
  split at hx
  case h_2=>cases hx
  rename_i b _ _
  simp only [List.mem_singleton] at hx
  subst hx
  refine ZF fun g hg=>?_
  have ht:s.bz=false:=by
   unfold dk at hv
   split at hv
   ·cases hv
   ·rename_i h;simpa using h
  simp only [ht] at hev
  have e5:b.ev (ρ.put k (us.flatMap cellsOf))=us.headD undef:=hev.symm
  rw [e5] at hg
  match us,hg with
  | [],hg=>simp [blk,undef] at hg
  | u :: us,hg=>exact hlo u rfl g hg
end
def rQ (st:List It) (J:List Nat) (y:C):Arg->Option (List It)
 | .parts sh fs=>if mN y sh then some (fs.map fun q=>gv st J (bm q.1 q.2.1 y) q.2.2) else none
 | _=>none
def pf (j:Nat):List Atom->List It
 | a :: _=>[.lo j a]
 | []=>[]
section
variable {P:Program}{ops:Array Oper}{st:List It}
theorem ZJ {J:List Nat}{g:Arg}{need:List It} (h:rQ st J y g=some need) (hl:∀z,z ∈ need->z.holds Φ X ρ a w):g.ok Φ (cf J X ρ) w (y.ev ρ):=by
 unfold rQ at h
 split at h
 case h_2=>cases h
 rename_i sh fs
 split at h
 case isFalse=>cases h
 rename_i hf
 simp only [Option.some.injEq] at h
 subst h
 refine ⟨rM hf ρ,fun q hq w1 hw=>?_⟩
 have:=fG (hl (gv st J (bm q.1 q.2.1 y) q.2.2) (List.mem_map.2 ⟨q,hq,rfl⟩)) w1 hw
 rwa [mL] at this
theorem ZK {l:List Value}{B:Nat} (hB:ρ.g b=some B) (h:Wr w w' (fun k=>k=B∨ρ.o j k)){a0:Act} (hG:Good X W n ρ a0 w):eo X W n k [.box b,.loose j] ρ w { ρ.put k l with o:=fun i m=>ρ.o i m∨(i=j∧w.heap.size<=m∧m<w'.heap.size∧blk u=some m) } w':=by
 obtain ⟨⟨h1,h2,h3⟩,hk,hb⟩:=h
 refine ⟨fun x hx=>(cY (ρ.put k l) _ x).trans (mM x hx),fun _ _=>rfl,fun a h=>⟨h.defers,h.size,?_,h.inj,fun i b hj=>⟨(h.lo i b hj).1,Nat.lt_of_lt_of_le (h.lo i b hj).2 hk.1⟩,h.old,fun i m hm=>?_,fun i q m hg hm=>?_,fun i q m h1 h2=>?_,⟨Nat.le_trans h.far.1 hk.1,fun i m hi hm=>?_⟩⟩,fun i o c v hkl hg h4 h5=>?_,fun J hJ=>⟨hk,fun m hm hx=>hb m hm fun hm'=>?_⟩,fun J m hm h=>?_,fun _ _ _ _ _ h=>.inl h,fun _ _ _ h=>.inl h⟩
 ·exact ⟨h1.trans h.grown.os,h2.trans h.grown.tape,h3.trans h.grown.output,Nat.le_trans h.grown.size hk.1,fun m hm hn=>(hb m (Nat.lt_of_lt_of_le hm h.grown.size) fun hm'=>by
   rcases hm' with e | ho
   ·have:=(h.lo b B hB).1;omega
   ·have:=(h.loose j m ho).1;omega).trans (h.grown.block m hm hn)⟩
 ·rcases hm with hm | ⟨-,hm,hm2,-⟩
  ·exact ⟨(h.loose i m hm).1,Nat.lt_of_lt_of_le (h.loose i m hm).2 hk.1⟩
  ·exact ⟨Nat.le_trans h.grown.size hm,hm2⟩
 ·rcases hm with hm | ⟨-,hm,-,-⟩
  ·exact h.apart i q m hg hm
  ·have:=(h.lo q m hg).2
   omega
 ·rcases h1 with h1 | h1
  ·rcases h2 with h2 | h2
   ·exact h.one i q m h1 h2
   ·have:=(h.loose i m h1).2
    omega
  ·rcases h2 with h2 | h2
   ·have:=(h.loose q m h2).2
    omega
   ·rw [h1.1,h2.1]
 ·rcases hm with hm | ⟨-,hm,-,-⟩
  ·exact h.far.2 i m hi hm
  ·exact Nat.le_trans h.far.1 hm
 ·have hne:c≠B:=fun e=>by
   subst e
   obtain rfl:i=b:=hG.inj i b c hg hB
   have:=hkl (.box i) (List.mem_cons_self ..)
   simp [It.hit] at this
  have hbk:=hb c (World.block_lt_of_cell? _ _ h4) fun hm=>by
   rcases hm with e | ho
   ·exact hne e
   ·exact hG.apart j i c hg ho
  refine ⟨by rw [World.cell?_of_block hbk];exact h4,?_⟩
  simp only [World.frozen?,hbk] at h5 ⊢
  exact h5
 ·rcases hm' with e | ho
  ·exact hx (.inr (.inl ⟨b,by rw [hB,e]⟩))
  ·refine hx (.inr (.inr ⟨j,fun hc=>?_,ho⟩))
   have:=hJ (.loose j) (List.mem_cons_of_mem _ (List.mem_cons_self ..))
   simp [It.hit] at this
   exact this hc
 ·rcases h with h | h | ⟨i,h1,h2⟩
  ·exact .inl h
  ·exact .inr (.inl h)
  ·refine .inr (.inr ⟨i,h1,?_⟩)
   rcases h2 with h2 | ⟨-,h2,-,-⟩
   ·exact h2
   ·omega
theorem ZL {c:Call}{need m0 n0:List It}{J h0:List Nat}{hr:List (List Nat)}{l:List Atom}{g0:Arg}{gs:List Arg}{r cont:Out} (hi:ops[i]?=some o) (hw:Region.wanted o (yielded ops a.tmps)=true) (ho:o.op = .call c) (hc:c.callee = .value x0) (hx0:a.eval x0 = .func (.func s.f) #[] #[]) (hf:fI P s.f=true)
  (hs:wm Φ P J j sz (h0 :: hr) s) (_hjJ:j ∈ J) (hcl:c.args.toList=x1 :: xs) (hga:s.args=g0 :: gs) (hout:s.outs = [r,cont]) (hsg:eE s=true) (hv1:val st x1=some (.c (.one (.ptr b 0)),n0)) (hcs:fy st b 0 sz=some l) (hsz:sz≠0) (h0J:h0.all J.contains=true) (hcont:(cont.sh.comp k r.sh.len).cells.length=sz) (hagg:∃ys,cont.sh = .agg ys)
  (hm0:rQ st h0 (.agg l) g0=some m0) (ha:il st J (hr.map fun h=>(h,[])) xs gs=some need) (hn0:∀z,z ∈ n0->z.holds Φ X ρ a w) (hlc:∀z,z ∈ fq b 0 l->z.holds Φ X ρ a w) (hl0:∀z,z ∈ m0->z.holds Φ X ρ a w) (hl:∀z,z ∈ need->z.holds Φ X ρ a w) (hlo:∀z,z ∈ pf j l->z.holds Φ X ρ a w) (hG:Good X W n ρ a w) (hd:∀x,o.dst=some x->x<n)
  (hK:∀ρ' a' w',Good X W n ρ' a' w'->(∀x,x ∈ dO o.dst (.c (r.sh.comp k 0)) ++ (fq b 0 (cont.sh.comp k r.sh.len).cells ++ ((facts k 0 s.outs).map (wo [j]) ++ pf j (cont.sh.comp k r.sh.len).cells))->x.holds Φ X ρ' a' w')->(∀x:It,x.holds Φ X ρ a w->(∀y,y ∈ cF o.dst ++ [.box b,.loose j]->x.hit y=false)->k ∉ x.sts->x.holds Φ X ρ' a' w')->K a' w'):wpOp P ops Q i K a w:=by
 have hlen:=oM hcs
 have hcell:∀(q:Nat) (y:Atom),l[q]?=some y->∃g,ρ.g b=some g∧w.cell? ⟨g,q,none⟩=some (y.ev ρ)∧w.frozen? ⟨g,q,none⟩=false:=fun q y hy=>by
  have:=hlc _ (lu (k:=b) (o:=0) hy)
  rw [Nat.zero_add] at this
  exact this
 obtain ⟨B,hB⟩:∃B,ρ.g b=some B:=by
  obtain ⟨g,hg,_⟩:=hcell 0 l[0] (List.getElem?_eq_getElem (by omega))
  exact ⟨g,hg⟩
 have he1:a.eval x1 = .pointer (some ⟨B,0,none⟩):=by
  rw [val_ok hv1 hn0]
  show Value.pointer (some ⟨(ρ.g b).getD 0,0,none⟩)=_
  rw [hB];rfl
 unfold wpOp
 simp only [hi,hw,if_true]
 refine .inl ?_
 unfold Oper.wp
 rw [pc ho hc hx0 hf]
 have hargs:(c.args.map a.eval)=(.pointer (some ⟨B,0,none⟩) :: xs.map a.eval).toArray:=by
  apply Array.ext'
  rw [Array.toList_map,hcl,List.map_cons,he1]
 simp only [Oper.upon]
 rw [hargs]
 have ZM:∀q,q ∈ h0->q ∈ J:=fun q hq=>by simpa using List.all_eq_true.1 h0J q hq
 refine (hs (cf J X ρ) ρ.o W w B (l.map (Atom.ev ρ)) _ hG.grown (fun m hm=>hG.below hm.own) (fun j k hk=>hG.loose j k hk) (fun j g hj hg h=>?_) hG.one (hG.lo b B hB).1 (.inr (.inl ⟨b,hB⟩)) (fun q hq=>hG.apart q b B hB hq) (by simp [hlen]) (fun q u hq=>?_) ?_ (fun g hg=>?_)).mono fun e w' ⟨u,l',he,hwr,hl',hcl',hou,ZN⟩=>?_
 ·rcases h with h | ⟨q,h⟩ | ⟨q,h1,h2⟩
  ·have:=hG.old g h
   have:=(hG.loose j g hg).1
   omega
  ·exact hG.apart j q g h hg
  ·exact h1 (hG.one q j g h2 hg▸hj)
 ·rw [List.getElem?_map,Option.map_eq_some_iff] at hq
  obtain ⟨y,hy,rfl⟩:=hq
  obtain ⟨g,hg,h1,h2⟩:=hcell q y hy
  obtain rfl:B=g:=Option.some.inj (hB.symm.trans hg)
  exact ⟨h1,h2⟩
 ·rw [hga,List.map_cons]
  refine ⟨⟨Arg.ok.less (fun q hq=>?_) (ZJ (y:=.agg l) hm0 hl0),fun hne=>absurd rfl hne⟩,wu ha hl⟩
  rcases hq with hq | ⟨q',-,h5,h6⟩
  ·exact hq.less ZM
  ·exact .inr (.inr ⟨q',h5,h6⟩)
 ·cases l with
  | nil=>simp [blk,undef] at hg
  | cons y l=>exact hlo _ (List.mem_singleton.2 rfl) g hg
 subst he
 rw [hout] at hou
 have hst:=ZK (k:=k) (l:=[u,Value.agg l'.toArray].flatMap cellsOf) (b:=b) (u:=l'.headD undef) hB hwr hG
 have ZO : [r,cont].all (fun o=>o.sh.good)=true:=by
  unfold eE at hsg
  rw [hout] at hsg;exact hsg
 obtain ⟨e1,e2⟩:=gu (ρ:=ρ) (k:=k) (l:=[u,Value.agg l'.toArray].flatMap cellsOf) (c:=0) hou ZO (fun j v hj=>by rw [Nat.zero_add];exact hj)
 simp only [kj,List.map_cons,List.map_nil,List.cons.injEq,and_true,Nat.zero_add] at e1
 obtain ⟨e3,e4⟩:=e1
 have hev:u=(SV.c (r.sh.comp k 0)).ev { ρ.put k ([u,Value.agg l'.toArray].flatMap cellsOf) with o:=fun i m=>ρ.o i m∨(i=j∧w.heap.size<=m∧m<w'.heap.size∧blk (l'.headD undef)=some m) }:=by
  rw [SV.cY]
  exact e3.symm
 obtain ⟨ys,hys⟩:=hagg
 have e5:∀(q:Nat) (y:Atom),(cont.sh.comp k r.sh.len).cells[q]?=some y->l'[q]?=some (y.ev (ρ.put k ([u,Value.agg l'.toArray].flatMap cellsOf))):=fun q y hy=>by
  rw [hys] at hy e4
  simp only [bW.comp,C.cells,C.ev,Value.agg.injEq] at hy e4
  have:=congrArg (fun (z:Array Value)=>z[q]?) e4
  simp only [List.getElem?_toArray,List.getElem?_map,hy,Option.map_some] at this
  exact this.symm
 show K (a.put o.dst u) w'
 rw [hev]
 refine hK _ _ w' (kw (hst.good a hG)) (fun x hx=>?_) (fun x hx hk hn=>frame (rP (more:=cF o.dst) hst) (fun t ht=>km t (fun y hy=>ht y (List.mem_append_left _ hy))) x hx hk hn)
 rcases List.mem_append.1 hx with hx | hx
 ·exact ko (fun x hx=>by rw [hG.size];exact hd x hx) x hx
 rcases List.mem_append.1 hx with hx | hx
 ·obtain ⟨q,y,rfl,hq⟩:=oJ hx
  have h6:=e5 q y hq
  obtain ⟨h7,h8⟩:=hcl' q _ h6
  refine ⟨B,hB,?_,by rw [Nat.zero_add];exact h8⟩
  rw [Nat.zero_add,cY]
  exact h7
 rcases List.mem_append.1 hx with hx | hx
 ·rw [hout] at hx
  obtain ⟨z,hz,rfl⟩:=List.mem_map.1 hx
  obtain ⟨y,p,rfl,hy⟩:=e2 z hz
  intro w1 hw1
  rw [C.cY]
  refine hy w1 (hw1.wide fun m h=>?_)
  rcases h with h | h | ⟨q,h1,h2⟩
  ·exact .inl (.inl h)
  ·exact .inl (.inr (.inl h))
  ·have hqj:q≠j:=fun e=>h1 (by rw [e];exact List.mem_singleton.2 rfl)
   rcases h2 with h2 | ⟨h2,-⟩
   ·by_cases hq:q ∈ J
    ·exact .inr ⟨q,hq,hqj,h2⟩
    ·exact .inl (.inr (.inr ⟨q,hq,h2⟩))
   ·exact absurd h2 hqj
 ·cases hcc:(cont.sh.comp k r.sh.len).cells with
  | nil=>rw [hcc] at hcont;exact absurd hcont.symm hsz
  | cons y ts=>
   rw [hcc] at hx
   simp only [pf,List.mem_singleton] at hx
   subst hx
   intro g hg
   rw [cY] at hg
   have h6:=e5 0 y (by rw [hcc];rfl)
   have h7:l'.headD undef=y.ev (ρ.put k ([u,Value.agg l'.toArray].flatMap cellsOf)):=by
    cases l' with
    | nil=>cases h6
    | cons v l'=>exact Option.some.inj h6
   rw [<- h7] at hg
   rcases ZN g hg with h | h
   ·exact .inl h
   ·exact .inr ⟨rfl,h.1,h.2,hg⟩
end
def pg (ops:Array Oper) (st:List It) (o:Oper):Option (Bool×List It):=match o.guard with
 | none=>some (true,[])
 | some (j,want)=>match (ops[j]?).bind (·.dst) with
  | some d=>match fp st d with
   | some (.c (.one (.cb b)))=>some (b == want,[.slot d (.c (.one (.cb b)))])
   | some (.c (.one .un))=>some (false,[.slot d (.c (.one .un))])
   | _=>none
  | none=>none
def ZP (j:Nat) (a:Atom):List It:=match a with
 | .s _ _=>[.lo j a]
 | .row _ _=>[.lo j a]
 | _=>[]
def mS (_P:Program) (st:List It) (k:Nat) (ss:List Site) (o:Oper) (g:List It):Option (Eff×List Site):=match ss with
 | []=>none
 | s :: rest=>match s.md with
  | .loose J j ix m=>match m o.op with
   | none=>none
   | some xs=>match xs[ix]? with
    | none=>none
    | some x0=>match val st x0 with
     | some (.c (.one a0),n0)=>if eE s=true∧j ∉ J then (match dk k s,dP st s.J xs s.args,dP st J xs (s.args.set ix .any) with
      | some v,some need,some kC=>some (⟨g ++ (need ++ (n0 ++ (kC ++ ZP j a0))),dO o.dst v ++ (fh s.J k s.outs ++ jr j v),cF o.dst ++ [.loose j]⟩,rest)
      | _,_,_=>none) else none
     | _=>none
  | .joint _ p m=>match m o.op with
   | none=>none
   | some xs=>if eE s=true∧s.bz=false then (match dk k s,dP st s.J xs s.args,iY st xs with
    | some (.c (.one y)),some need,some (ats,n0)=>if ats.all (fun x=>x.st != some k) then some (⟨g ++ (need ++ n0),dO o.dst (.c (.one y)) ++ (fh s.J k s.outs ++ [lE s.J (.agg (ats ++ [y])) p]),cF o.dst⟩,rest) else none
    | _,_,_=>none) else none
  | .put _ j ix p m=>match m o.op with
   | none=>none
   | some xs=>if o.dst.isNone=true then (match dP st s.J xs s.args,iY st xs.dropLast with
    | some need,some (ats,n0)=>(match ats[ix]? with
     | some a0=>if ats.all (fun x=>x.st != some k) then some (⟨g ++ (need ++ (n0 ++ [gv st s.J (.agg ats) p,.lo j a0])),pe s.J a0 s.outs,[.loose j]⟩,rest) else none
     | none=>none)
    | _,_=>none) else none
  | .lP J j ix p m=>match m o.op with
   | none=>none
   | some xs=>if o.dst.isNone=true∧j ∉ J then (match dP st s.J xs s.args,iY st xs.dropLast,dP st J xs (s.args.set ix .any) with
    | some need,some (ats,n0),some kC=>(match ats[ix]? with
     | some a0=>if ats.all (fun x=>x.st != some k) then some (⟨g ++ (need ++ (n0 ++ (kC ++ [gv st s.J (.agg ats) p,.lo j a0]))),pe s.J a0 s.outs,[.loose j]⟩,rest) else none
     | none=>none)
    | _,_,_=>none) else none
  | .kE _ m=>match m o.op with
   | none=>none
   | some xs=>if eE s=true∧s.bz=false then (match dk k s,dP st s.J xs s.args with
    | some v,some need=>some (⟨g ++ need,dO o.dst v ++ facts k 0 s.outs,cF o.dst⟩,rest)
    | _,_=>none) else none
  | _=>match s.q with
   | none=>none
   | some m=>match m o.op with
    | none=>none
    | some xs=>if eE s=true∧s.bz=false then (match dk k s,dP st s.J xs s.args with
     | some v,some need=>some (⟨g ++ need,dO o.dst v ++ fh s.J k s.outs,cF o.dst⟩,rest)
     | _,_=>none) else none
def jt (st:List It) (x:Operand) (f:FuncId):Bool:=match x with
 | .func h=>h == f
 | .tmp t=>match fp st t with
  | some (.c (.one (.fn h)))=>h == f
  | _=>false
 | _=>false
def mT (x:Operand) (f:FuncId):List It:=match x with
 | .tmp t=>[.slot t (.c (.one (.fn f)))]
 | _=>[]
theorem pi {st:List It} (h:jt st x f=true) (hl:∀z,z ∈ mT x f->z.holds Φ X ρ a w):a.eval x = .func (.func f) #[] #[]:=by
 cases x with
 | tmp t=>
  have:=hl _ (List.mem_singleton.2 rfl)
  exact rE (v:=.func (.func f) #[] #[]) this
 | const v=>simp [jt] at h
 | global g=>simp [jt] at h
 | func g=>
  simp only [jt,beq_iff_eq] at h
  subst h;rfl
def ww (P:Program) (st:List It) (k:Nat) (s:Site) (x:Operand) (c:Call) (o:Oper) (g:List It):Option Eff:=match s.md with
 | .eN _ j=>if jt st x s.f=true∧fI P s.f=true∧eE s=true then (match dk k s,dP st s.J c.args.toList s.args with
  | some v,some need=>some ⟨g ++ (need ++ mT x s.f),dO o.dst v ++ (fh s.J k s.outs ++ jr j v),cF o.dst ++ [.loose j]⟩
  | _,_=>none) else none
 | .nF _ j i=>if jt st x s.f=true∧fI P s.f=true∧eE s=true then (match dk k s,dP st s.J c.args.toList s.args,c.args.toList[i]? with
  | some v,some need,some x1=>match val st x1 with
   | some (.c (.one a0),n0)=>some ⟨g ++ (need ++ (n0 ++ ([.lo j a0] ++ mT x s.f))),dO o.dst v ++ (fh s.J k s.outs ++ jr j v),cF o.dst ++ [.loose j]⟩
   | _=>none
  | _,_,_=>none) else none
 | .oo _=>if fI P s.f=true∧eE s=true then (match dk k s,dP st s.J (x :: c.args.toList) s.args with
  | some v,some need=>some ⟨g ++ need,dO o.dst v ++ fh s.J k s.outs,cF o.dst⟩
  | _,_=>none) else none
 | .rK J js ag _=>if jt st x s.f=true∧fI P s.f=true∧eE s=true then (match dk k s,il st J ag c.args.toList s.args with
  | some v,some need=>some ⟨g ++ (need ++ mT x s.f),dO o.dst v ++ (fh js k s.outs ++ wt js v),cF o.dst ++ js.map .loose⟩
  | _,_=>none) else none
 | .wi J j sz hs=>if (jt st x s.f=true∧fI P s.f=true∧eE s=true)∧J.contains j=true∧sz≠0 then (match c.args.toList,s.args,hs,s.outs with
  | x1 :: xs,g0 :: gs,h0 :: hr,[r,⟨.agg ys,_⟩]=>(match val st x1 with
   | some (.c (.one (.ptr b 0)),n0)=>(match fy st b 0 sz with
    | some l=>if h0.all J.contains=true∧ys.length=sz then (match rQ st h0 (.agg l) g0,il st J (hr.map fun h=>(h,[])) xs gs with
     | some m0,some need=>some ⟨g ++ (n0 ++ (fq b 0 l ++ (m0 ++ (need ++ (pf j l ++ mT x s.f))))),dO o.dst (.c (r.sh.comp k 0)) ++ (fq b 0 (kh k r.sh.len ys) ++ ((facts k 0 s.outs).map (wo [j]) ++ pf j (kh k r.sh.len ys))),cF o.dst ++ [.box b,.loose j]⟩
     | _,_=>none) else none
    | none=>none)
   | _=>none)
  | _,_,_,_=>none) else none
 | _=>none
def takes (ss:List Site) (op:Op):Bool:=match ss with
 | s :: _=>match s.md with
  | .loose _ _ _ m=>(m op).isSome
  | .fresh _ m=>(m op).isSome
  | _=>false
 | []=>false
def wy (P:Program) (ops:Array Oper) (n:Nat) (st:List It) (k:Nat) (ss:List Site) (o:Oper):Option (Eff×List Site):=
 if o.dst.all (fun d=>decide (d<n)) then
  match pg ops st o with
  | some (false,g)=>some (⟨g,dO o.dst (.c (.one .un)),cF o.dst⟩,ss)
  | some (true,g)=>match o.op with
   | .store t x y=>if o.dst.isNone then (match ws P st t x y with
     | some (b,q,vs,_,need)=>some (⟨g ++ need,fq b q vs,oZ b q vs.length⟩,ss)
     | none=>mS P st k ss o g) else none
   | .call c=>(match c.callee,ss with
     | .value x,s :: rest=>(match ww P st k s x c o g with
      | some e=>some (e,rest)
      | none=>if (s.q.isNone=true∧s.lz.isNone=true)∧jt st x s.f=true∧fI P s.f=true∧eE s=true then (match dk k s,dP st s.J c.args.toList s.args with
      | some v,some need=>some (⟨g ++ (need ++ mT x s.f),dO o.dst v ++ fh s.J k s.outs,cF o.dst⟩,rest)
      | _,_=>none) else none)
     | _,_=>mS P st k ss o g)
   | op=>if takes ss op then mS P st k ss o g else (match wh P st op with
    | some (cs,_,r,need)=>if cs.all (fun x=>x.st != some k) then some (⟨g ++ need,dO o.dst (.c (.one (newAtom k r))) ++ fq k 0 cs,cF o.dst⟩,ss) else none
    | none=>match wg P st op with
     | some (v,need)=>some (⟨g ++ need,dO o.dst v,cF o.dst⟩,ss)
     | none=>mS P st k ss o g)
  | none=>none
 else none
section
variable {P:Program}{ops:Array Oper}{st:List It}
theorem fJ {b:Bool}{g:List It} (h:pg ops st o=some (b,g)) (hl:∀z,z ∈ g->z.holds Φ X ρ a w):Region.wanted o (yielded ops a.tmps)=b:=by
 unfold pg at h
 unfold Region.wanted
 split at h
 ·rename_i hg
  simp at h
  simp [hg,h.1]
 ·rename_i j want hg
  simp only [hg]
  split at h
  ·rename_i d hd
   split at h
   ·rename_i c hs
    simp at h
    obtain ⟨rfl,rfl⟩:=h
    have:=hl _ (List.mem_singleton.2 rfl)
    simp only [It.holds] at this
    simp only [yielded,hd,Option.bind_some,this,SV.ev,C.ev,Atom.ev]
    cases c <;> cases want <;> rfl
   ·rename_i hs
    simp at h
    obtain ⟨rfl,rfl⟩:=h
    have:=hl _ (List.mem_singleton.2 rfl)
    simp only [It.holds] at this
    simp only [yielded,hd,Option.bind_some,this,SV.ev,C.ev,Atom.ev,undef]
    cases want <;> rfl
   ·cases h
  ·cases h
theorem rR {e:Eff}{g:List It} (h:mS P st k ss o g=some (e,rest)) (hg:pg ops st o=some (true,g)) (hd:∀x,o.dst=some x->x<n) (hi:ops[i]?=some o) (hs:∀s,s ∈ ss->aj Φ P s):mO P Φ X ops Q W n i k e∧∀s,s ∈ rest->aj Φ P s:=by
 unfold mS at h
 split at h
 case h_1=>cases h
 rename_i s rest'
 have hso:=hs s (List.mem_cons_self ..)
 split at h
 ·rename_i J j ix m hmd
  split at h
  case h_1=>cases h
  rename_i xs hm
  split at h
  case h_1=>cases h
  rename_i x0 hx0
  split at h
  case h_2=>cases h
  rename_i a0 n0 hv0
  split at h
  case isFalse=>cases h
  rename_i hsg
  split at h
  case h_2=>cases h
  rename_i v need kC hv ha ha2
  simp only [Option.some.injEq,Prod.mk.injEq] at h
  obtain ⟨rfl,rfl⟩:=h
  unfold aj at hso
  rw [hmd] at hso
  refine ⟨fun ρ a w K hG hl hK=>?_,fun t ht=>hs t (List.mem_cons_of_mem _ ht)⟩
  refine Zy hi (fJ hg (bF hl)) hm hso (j:=j) (by simp [Site.J,hmd]) hsg.2 ha2 (bF (bf (bf (bf hl)))) (by simp [Site.J,hmd]) hsg.1 (by simp [Site.bz,hmd]) hv ha hx0 hv0 (bF (bf hl)) (bF (bf (bf hl))) ?_ hG hd hK
  have hn:=bf (bf (bf (bf hl)))
  cases a0 with
  | s k c=>exact hn _ (List.mem_singleton.2 rfl)
  | row k c=>exact hn _ (List.mem_singleton.2 rfl)
  | _=>intro g hg;cases hg
 ·rename_i J p m hmd
  split at h
  case h_1=>cases h
  rename_i xs hm
  split at h
  case isFalse=>cases h
  rename_i hc
  split at h
  case h_2=>cases h
  rename_i y need ats n0 hv ha hon
  split at h
  case isFalse=>cases h
  rename_i hall
  simp only [Option.some.injEq,Prod.mk.injEq] at h
  obtain ⟨rfl,rfl⟩:=h
  unfold aj at hso
  rw [hmd] at hso
  refine ⟨fun ρ a w K hG hl hK=>?_,fun t ht=>hs t (List.mem_cons_of_mem _ ht)⟩
  exact Zz hi (fJ hg (bF hl)) hm hso hc.1 hc.2 hv ha hon hall (bF (bf hl)) (bf (bf hl)) hG hd hK
 ·rename_i J j ix p m hmd
  split at h
  case h_1=>cases h
  rename_i xs hm
  split at h
  case isFalse=>cases h
  rename_i hdst
  split at h
  case h_2=>cases h
  rename_i need ats n0 ha hon
  split at h
  case h_2=>cases h
  rename_i a0 ha0
  split at h
  case isFalse=>cases h
  rename_i hall
  simp only [Option.some.injEq,Prod.mk.injEq] at h
  obtain ⟨rfl,rfl⟩:=h
  unfold aj at hso
  rw [hmd] at hso
  refine ⟨fun ρ a w K hG hl hK=>?_,fun t ht=>hs t (List.mem_cons_of_mem _ ht)⟩
  have hn:=bf (bf (bf hl))
  exact Fj hi (fJ hg (bF hl)) (fun hLX=>hso (cf s.J X ρ) (ρ.o j) w a o xs (fun _ hk=>hG.below hk.own) (fun g hg=>(hG.loose j g hg).2) hLX hm (gw ha (bF (bf hl))) (fun w1 hw1=>by rw [mQ hon (bF (bf (bf hl)))];exact fG (hn _ (List.mem_cons_self ..)) w1 hw1) (fun x g hx hg=>hn _ (List.mem_cons_of_mem _ (List.mem_singleton.2 rfl)) g (by rw [<- Fi hon (bF (bf (bf hl))) ha0 hx];exact hg))) (j:=j) (by simp [Site.J,hmd]) (Option.isNone_iff_eq_none.1 hdst) hon hall ha0 (bF (bf (bf hl))) (hn _ (List.mem_cons_of_mem _ (List.mem_singleton.2 rfl))) hG hK
 ·rename_i J j ix p m hmd
  split at h
  case h_1=>cases h
  rename_i xs hm
  split at h
  case isFalse=>cases h
  rename_i hdst
  split at h
  case h_2=>cases h
  rename_i need ats n0 kC ha hon ha2
  split at h
  case h_2=>cases h
  rename_i a0 ha0
  split at h
  case isFalse=>cases h
  rename_i hall
  simp only [Option.some.injEq,Prod.mk.injEq] at h
  obtain ⟨rfl,rfl⟩:=h
  unfold aj at hso
  rw [hmd] at hso
  refine ⟨fun ρ a w K hG hl hK=>?_,fun t ht=>hs t (List.mem_cons_of_mem _ ht)⟩
  have hn:=bf (bf (bf (bf hl)))
  exact Fj hi (fJ hg (bF hl)) (fun hLX=>hso (cf s.J X ρ) (ρ.o j) w a o xs (fun _ hk=>hG.below hk.own) (fun g hg=>(hG.loose j g hg).2) hLX hm (gw ha (bF (bf hl))) (fun w1 hw1=>by rw [mQ hon (bF (bf (bf hl)))];exact fG (hn _ (List.mem_cons_self ..)) w1 hw1) (fun x g hx hg=>hn _ (List.mem_cons_of_mem _ (List.mem_singleton.2 rfl)) g (by rw [<- Fi hon (bF (bf (bf hl))) ha0 hx];exact hg)) (cQ.less (fun m hm=>by
   rcases hm with hm | hm
   ·rcases hm with h | h | ⟨q,h1,h2⟩
    ·exact .inl h
    ·exact .inr (.inl h)
    ·exact .inr (.inr ⟨q,fun h=>h1 (by simp only [Site.J,hmd];exact List.mem_cons_of_mem _ h),h2⟩)
   ·exact .inr (.inr ⟨j,hdst.2,hm⟩)) (gw ha2 (bF (bf (bf (bf hl)))))) ) (j:=j) (by simp [Site.J,hmd]) (Option.isNone_iff_eq_none.1 hdst.1) hon hall ha0 (bF (bf (bf hl))) (hn _ (List.mem_cons_of_mem _ (List.mem_singleton.2 rfl))) hG hK
 ·rename_i J m hmd
  split at h
  case h_1=>cases h
  rename_i xs hm
  split at h
  case isFalse=>cases h
  rename_i hc
  split at h
  case h_2=>cases h
  rename_i v need hv ha
  simp only [Option.some.injEq,Prod.mk.injEq] at h
  obtain ⟨rfl,rfl⟩:=h
  unfold aj at hso
  rw [hmd] at hso
  refine ⟨fun ρ a w K hG hl hK=>?_,fun t ht=>hs t (List.mem_cons_of_mem _ ht)⟩
  exact Zw hi (fJ hg (bF hl)) hm hso hc.1 hc.2 hv ha (bf hl) hG hd hK
 ·rename_i hnl
  split at h
  case h_1=>cases h
  rename_i m hq
  split at h
  case h_1=>cases h
  rename_i xs hm
  split at h
  case isFalse=>cases h
  rename_i hc
  split at h
  case h_2=>cases h
  rename_i v need hv ha
  simp only [Option.some.injEq,Prod.mk.injEq] at h
  obtain ⟨rfl,rfl⟩:=h
  refine ⟨fun ρ a w K hG hl hK=>?_,fun t ht=>hs t (List.mem_cons_of_mem _ ht)⟩
  have hw:=fJ hg (bF hl)
  have ZQ:oU Φ P m s:=by
   unfold aj at hso
   unfold Site.q at hq
   revert hso hq
   cases s.md <;> intro hso hq <;> simp at hq
   ·subst hq;exact hso
   ·subst hq;exact hso
   ·subst hq;exact hso
  exact Zv hi hw hm ZQ hc.1 hc.2 hv ha (bf hl) hG hd hK
theorem Fm (k:Nat):∀(ys:List Sh) (c:Nat),(kh k c ys).length=ys.length
 | [],_=>rfl
 | _ :: ys,c=>congrArg (· + 1) (Fm k ys (c+1))
theorem ZR {e:Eff}{g:List It} (h:ww P st k s x c o g=some e) (hg:pg ops st o=some (true,g)) (hd:∀x,o.dst=some x->x<n) (hi:ops[i]?=some o) (ho:o.op = .call c) (hc:c.callee = .value x) (hs:aj Φ P s):mO P Φ X ops Q W n i k e:=by
 unfold ww at h
 split at h
 case h_6=>cases h
 ·rename_i J j hmd
  split at h
  case isFalse=>cases h
  rename_i hcond
  obtain ⟨ju,hf,hsg⟩:=hcond
  split at h
  case h_2=>cases h
  rename_i v need hv ha
  simp only [Option.some.injEq] at h
  subst h
  have hso:eY Φ P s:=by unfold aj at hs;rw [hmd] at hs;exact hs
  have hJ:j ∈ s.J:=by unfold Site.J;rw [hmd];exact List.mem_cons_self ..
  have ht:s.bz=false:=by unfold Site.bz;rw [hmd]
  refine fun ρ a w K hG hl hK=>?_
  exact ZA hi (fJ hg (bF hl)) ho hc (pi ju (bf (bf hl))) hf hso hJ hsg ht hv ha (bF (bf hl)) hG hd hK
 ·rename_i J j ix hmd
  split at h
  case isFalse=>cases h
  rename_i hcond
  obtain ⟨ju,hf,hsg⟩:=hcond
  split at h
  case h_2=>cases h
  rename_i v need x1 hv ha hx1
  split at h
  case h_2=>cases h
  rename_i a0 n0 hv1
  simp only [Option.some.injEq] at h
  subst h
  have hso:wk Φ P ix s:=by unfold aj at hs;rw [hmd] at hs;exact hs
  have hJ:j ∈ s.J:=by unfold Site.J;rw [hmd];exact List.mem_cons_self ..
  have ht:s.bz=false:=by unfold Site.bz;rw [hmd]
  refine fun ρ a w K hG hl hK=>?_
  have hl2:=bf (bf (bf hl))
  exact ZB hi (fJ hg (bF hl)) ho hc (pi ju (bf hl2)) hf hso hJ hsg ht hx1 hv1 (bF (bf (bf hl))) (hl2 _ (by simp)) hv ha (bF (bf hl)) hG hd hK
 ·rename_i J hmd
  split at h
  case isFalse=>cases h
  rename_i hcond
  obtain ⟨hf,hsg⟩:=hcond
  split at h
  case h_2=>cases h
  rename_i v need hv ha
  simp only [Option.some.injEq] at h
  subst h
  have hso:wj Φ P s:=by unfold aj at hs;rw [hmd] at hs;exact hs
  refine fun ρ a w K hG hl hK=>?_
  exact Zu hi (fJ hg (bF hl)) ho hc hf hso hsg hv ha (bf hl) hG hd hK
 ·rename_i J js ag tp hmd
  split at h
  case isFalse=>cases h
  rename_i hcond
  obtain ⟨ju,hf,hsg⟩:=hcond
  split at h
  case h_2=>cases h
  rename_i v need hv ha
  simp only [Option.some.injEq] at h
  subst h
  have hso:wl Φ P J js ag s:=by unfold aj at hs;rw [hmd] at hs;exact hs
  refine fun ρ a w K hG hl hK=>?_
  exact ZI hi (fJ hg (bF hl)) ho hc (pi ju (bf (bf hl))) hf hso hsg hv ha (bF (bf hl)) hG hd hK
 ·rename_i J j sz hs0 hmd
  split at h
  case isFalse=>cases h
  rename_i hcond
  obtain ⟨⟨ju,hf,hsg⟩,hjJ,hsz⟩:=hcond
  split at h
  case h_2=>cases h
  rename_i x1 xs g0 gs h0 hr r ys fs hcl hga hou
  split at h
  case h_2=>cases h
  rename_i b n0 hv1
  split at h
  case h_2=>cases h
  rename_i l hcs
  split at h
  case isFalse=>cases h
  rename_i hc2
  obtain ⟨h0J,hys⟩:=hc2
  split at h
  case h_2=>cases h
  rename_i m0 need hm0 ha
  simp only [Option.some.injEq] at h
  subst h
  have hso:wm Φ P J j sz (h0 :: hr) s:=by unfold aj at hs;rw [hmd] at hs;exact hs
  refine fun ρ a w K hG hl hK=>?_
  have h1:=bf hl
  have h2:=bf h1
  have h3:=bf h2
  have h4:=bf h3
  exact ZL hi (fJ hg (bF hl)) ho hc (pi ju (bf (bf h4))) hf hso (by simpa using hjJ) hcl hga hou hsg hv1 hcs hsz h0J (by show (kh k _ ys).length=sz;rw [Fm,hys]) ⟨ys,rfl⟩ hm0 ha (bF h1) (bF h2) (bF h3) (bF h4) (bF (bf h4)) hG hd hK
theorem ZS {e:Eff} (h:wy P ops n st k ss o=some (e,rest)) (hi:ops[i]?=some o) (hs:∀s,s ∈ ss->aj Φ P s):mO P Φ X ops Q W n i k e∧∀s,s ∈ rest->aj Φ P s:=by
 unfold wy at h
 split at h
 case isFalse=>cases h
 rename_i hdst
 have hd:∀x,o.dst=some x->x<n:=fun x hx=>by rw [hx] at hdst;simpa using hdst
 split at h
 ·skip
  rename_i g hg
  simp only [Option.some.injEq,Prod.mk.injEq] at h
  obtain ⟨rfl,rfl⟩:=h
  refine ⟨fun ρ a w K hG hl hK=>?_,hs⟩
  have hw:=fJ hg hl
  unfold wpOp
  simp only [hi,hw,Bool.false_eq_true,if_false]
  refine hK ρ _ w (kw hG) (fun x hx=>ko (v:=.c (.one .un)) (fun x hx=>by rw [hG.size];exact hd x hx) x hx) (fun x hx hk hn=>?_)
  exact frame (Fc (W:=W) (n:=n) (X:=X) k (cF o.dst)) (fun t ht=>km t ht) x hx hk hn
 ·rename_i g hg
  split at h
  ·rename_i t x y ho
   split at h
   case isFalse=>cases h
   rename_i hno
   have hno:o.dst=none:=by simpa using hno
   split at h
   case h_2=>exact rR h hg hd hi hs
   rename_i b q vs l need hst
   simp only [Option.some.injEq,Prod.mk.injEq] at h
   obtain ⟨rfl,rfl⟩:=h
   refine ⟨fun ρ a w K hG hl hK=>?_,hs⟩
   have hw:=fJ hg (bF hl)
   obtain ⟨w',hr,hstep,hc⟩:=Zq (k:=k) ho hst (bf hl) hG
   refine kA hi hw ρ (.c (.one .un)) w' (.inr ⟨hr,hno⟩) hstep hG hd (fun x hx=>hc x hx _) (fun ρ' a' w' h1 h2 h3=>hK ρ' a' w' h1 (fun x hx=>h2 x (List.mem_append_right _ hx)) (fun x hx hk hn=>h3 x hx (fun y hy=>?_) hn))
   rw [hno] at hy
   exact hk y hy
  ·rename_i c ho
   split at h
   case h_2=>exact rR h hg hd hi hs
   rename_i x0 s rest' hc
   split at h
   ·rename_i e' hne
    simp only [Option.some.injEq,Prod.mk.injEq] at h
    obtain ⟨rfl,rfl⟩:=h
    exact ⟨ZR hne hg hd hi ho hc (hs s (List.mem_cons_self ..)),fun t ht=>hs t (List.mem_cons_of_mem _ ht)⟩
   split at h
   case isFalse=>cases h
   rename_i hcond
   obtain ⟨⟨hq,hlz⟩,ju,hf,hsg⟩:=hcond
   have rS:=hs s (List.mem_cons_self ..)
   have hso:oV Φ P s:=by
    unfold aj at rS
    unfold Site.q at hq
    unfold Site.lz at hlz
    revert rS hq hlz
    cases s.md <;> intro hq hlz rS <;> simp at hq hlz <;> exact rS
   split at h
   case h_2=>cases h
   rename_i v need hv ha
   simp only [Option.some.injEq,Prod.mk.injEq] at h
   obtain ⟨rfl,rfl⟩:=h
   refine ⟨fun ρ a w K hG hl hK=>?_,fun t ht=>hs t (List.mem_cons_of_mem _ ht)⟩
   have hw:=fJ hg (bF hl)
   exact Zt hi hw ho hc (pi ju (bf (bf hl))) hf hso hsg hv ha (bF (bf hl)) hG hd hK
  ·rename_i op ho1 ho2
   split at h
   ·exact rR h hg hd hi hs
   split at h
   ·rename_i cs t r need hnew
    split at h
    case isFalse=>cases h
    rename_i hcs
    simp only [Option.some.injEq,Prod.mk.injEq] at h
    obtain ⟨rfl,rfl⟩:=h
    refine ⟨fun ρ a w K hG hl hK=>?_,hs⟩
    have hw:=fJ hg (bF hl)
    have hr:=Zi hnew (bf hl) (ρ.box k w.heap.size) k (by simp [Env.box])
    refine kA hi hw (ρ.box k w.heap.size) (.c (.one (newAtom k r))) _ (.inl hr) (Zn k _ t) hG hd (fun x hx=>?_) (fun ρ' a' w' h1 h2 h3=>hK ρ' a' w' h1 h2 (fun x hx hk hn=>h3 x hx (fun y hy=>hk y (by simpa using hy)) hn))
    obtain ⟨j,y,rfl,hj⟩:=oJ hx
    have hy:y.st≠some k:=by
     have:=List.all_eq_true.1 hcs y (List.mem_of_getElem? hj)
     simpa using this
    refine ⟨w.heap.size,by simp [Env.box],?_,lK _ _ _ _ (lL (Nat.le_refl _))⟩
    rw [World.cell?_alloc_new,Fa y hy]
    simp [hj]
   ·split at h
    case h_2=>exact rR h hg hd hi hs
    rename_i v need hp
    simp only [Option.some.injEq,Prod.mk.injEq] at h
    obtain ⟨rfl,rfl⟩:=h
    refine ⟨fun ρ a w K hG hl hK=>?_,hs⟩
    have hw:=fJ hg (bF hl)
    have hr:=pure_ok hp (bf hl)
    refine kA hi hw ρ v w (.inl hr) (Fc k []) hG hd (add:=[]) (fun x hx=>by cases hx) (fun ρ' a' w' h1 h2 h3=>hK ρ' a' w' h1 (fun x hx=>h2 x (by simpa using hx)) (fun x hx hk hn=>h3 x hx (fun y hy=>hk y (by simpa using hy)) hn))
 ·cases h
end
def pj (P:Program) (ops:Array Oper) (n base:Nat):List Oper->Nat->List It->List Site->Option (List Eff×List Site)
 | [],_,_,ss=>some ([],ss)
 | o :: os,i,st,ss=>match wy P ops n st (base+i) ss o with
  | some (e,ss')=>match pj P ops n base os (i+1) (e.add ++ st.filter fun x=>e.kill.all fun y=>!x.hit y) ss' with
   | some (es,r)=>some (e :: es,r)
   | none=>none
  | none=>none
theorem wz {P:Program}{Φ:Nat->World->Value->Prop}{X:Nat->Prop}{ops:Array Oper}{Q:Exit->Act->World->Prop}{W:World}{n base:Nat}:∀{os:List Oper}{i:Nat}{st:List It}{ss r:List Site}{es:List Eff},pj P ops n base os i st ss=some (es,r)->
  (∀j o,os[j]?=some o->ops[i+j]?=some o)->(∀s,s ∈ ss->aj Φ P s)->es.length=os.length∧(∀j e,es[j]?=some e->mO P Φ X ops Q W n (i+j) (base+(i+j)) e)∧∀s,s ∈ r->aj Φ P s
 | [],_,_,_,_,_,h,_,hs=>by
  simp only [pj,Option.some.injEq,Prod.mk.injEq] at h
  obtain ⟨rfl,rfl⟩:=h
  exact ⟨rfl,fun j e hj=>by simp at hj,hs⟩
 | o :: os,i,st,ss,r,es,h,ho,hs=>by
  simp only [pj] at h
  split at h
  case h_2=>cases h
  rename_i e ss' he
  split at h
  case h_2=>cases h
  rename_i es' r' hes
  simp only [Option.some.injEq,Prod.mk.injEq] at h
  obtain ⟨rfl,rfl⟩:=h
  obtain ⟨h1,h2⟩:=ZS (X:=X) (Q:=Q) (W:=W) he (ho 0 o rfl) hs
  obtain ⟨h3,h4,h5⟩:=wz (X:=X) (Q:=Q) (W:=W) hes (fun j o' hj=>by rw [show i+1+j=i+(j+1) by omega];exact ho (j+1) o' (by simpa using hj)) h2
  refine ⟨by simp [h3],fun j e' hj=>?_,h5⟩
  cases j with
  | zero=>simp at hj;subst hj;exact h1
  | succ j=>
   have:=h4 j e' (by simpa using hj)
   rwa [show i+1+j=i+(j+1) by omega] at this
def after (T:Array Nat) (i j:Nat):Bool:=(T.getD i 0).testBit j
def direct (ops:Array Oper) (i j:Nat):Bool:=((ops[i]?).map fun o=>o.after.toList.any fun e=>Region.binds .any e && e.on == j).getD false
def hits (es:List Eff) (m:Nat) (x:It):Bool:=((es[m]?).map fun e=>e.kill.any fun y=>x.hit y).getD false
def mU (T:Array Nat) (m:Nat):Option Nat->Bool
 | none=>false
 | some j=>j == m || after T j m
def ZT (ops:Array Oper) (T:Array Nat) (N:Nat):Bool:=
 (List.range N).all fun i=>(List.range N).all fun j=>(!direct ops i j || (decide (j<i) && after T i j)) && (!after T i j || (decide (j<i) && (direct ops i j || (List.range N).any fun d=>direct ops i d && after T d j)))
def ZU (ops:Array Oper) (N:Nat):Bool:=ops.toList.all fun o=>o.after.toList.all fun e=>!Region.binds .any e || decide (e.on<N)
def wA (T:Array Nat) (es:List Eff) (N i:Nat) (o:Option Nat) (x:It):Bool:=(List.range N).all fun m=>!hits es m x || m == i || after T m i || mU T m o
def wB (st:List It) (T:Array Nat) (es:List Eff) (N i:Nat) (x:It):Bool:=
 (st.any (fun y=>y.beq x) && wA T es N i none x) || (List.range N).any fun j=>after T i j && ((es[j]?).map fun e=>e.add.any fun y=>y.beq x).getD false && wA T es N i (some j) x
def wC (ops:Array Oper) (T:Array Nat) (st:List It) (base N:Nat) (es:List Eff):Bool:=
 ZT ops T N && ZU ops N && st.all (fun x=>x.sts.all fun s=>decide (s<base)) &&
 (List.range N).all fun i=>((es[i]?).map fun e=>e.need.all (wB st T es N i) && e.add.all fun x=>x.sts.all fun s=>decide (s<base) || s == base+i || (decide (base<=s) && after T i (s-base))).getD false
def ZV (T:Array Nat) (st:List It) (N:Nat) (es:List Eff):List It:=
 ((List.range N).flatMap fun j=>((es[j]?).map fun e=>e.add.filter fun x=>(List.range N).all fun m=>!hits es m x || mU T m (some j)).getD []) ++ st.filter fun x=>(List.range N).all fun m=>!hits es m x
section
variable (Φ:Nat->World->Value->Prop)(X:Nat->Prop)(W:World)(n:Nat)(st:List It)(es:List Eff)(T:Array Nat)
def src (D:Nat->Bool):Option Nat->It->Prop
 | none,x=>x ∈ st
 | some j,x=>D j=true∧∃e,es[j]?=some e∧x ∈ e.add
def jv (D:Nat->Bool) (a:Act) (w:World):Prop:=∃ρ,Good X W n ρ a w∧∀o x,src st es D o x->(∀m,D m=true->hits es m x=true->mU T m o=true)->x.holds Φ X ρ a w
end
def Closed (T:Array Nat) (N:Nat) (D:Nat->Bool):Prop:=∀i j,D i=true->after T i j=true->j<N->D j=true
def with' (D:Nat->Bool) (i:Nat):Nat->Bool:=fun j=>j == i || D j
section
variable {P:Program}{ops:Array Oper}{base N:Nat}{st:List It}{es:List Eff}{T:Array Nat}
structure rT (P:Program) (Φ:Nat->World->Value->Prop) (X:Nat->Prop) (ops:Array Oper) (Q:Exit->Act->World->Prop) (W:World) (n base N:Nat) (st:List It) (es:List Eff) (T:Array Nat):Prop where
 size:ops.size=N
 len:es.length=N
 each:∀i e,es[i]?=some e->mO P Φ X ops Q W n i (base+i) e
 down:∀i j,i<N->j<N->direct ops i j=true->j<i∧after T i j=true
 back:∀i j,i<N->j<N->after T i j=true->j<i∧(direct ops i j=true∨∃d,d<N∧direct ops i d=true∧after T d j=true)
 Fo:∀i j,direct ops i j=true->j<N
 old:∀x,x ∈ st->∀s,s ∈ x.sts->s<base
 need:∀i e,es[i]?=some e->∀x,x ∈ e.need->∃o,(match o with | none=>x ∈ st | some j=>j<N∧after T i j=true∧∃e',es[j]?=some e'∧x ∈ e'.add)∧∀m,m<N->hits es m x=true->m=i∨after T m i=true∨mU T m o=true
 add:∀i e,es[i]?=some e->∀x,x ∈ e.add->∀s,s ∈ x.sts->s<base∨s=base+i∨(base<=s∧after T i (s-base)=true)
theorem wD {m:Nat}{x:It} (h:hits es m x=true):m<es.length:=by
 unfold hits at h
 rcases Nat.lt_or_ge m es.length with h1 | h1
 ·exact h1
 ·rw [List.getElem?_eq_none h1] at h;simp at h
theorem Fp (H:rT P Φ X ops Q W n base N st es T){D:Nat->Bool} (hi:i<N) (hD:D i=false) (rU:∀d,direct ops i d=true->D d=true) (hC:Closed T N D) :
  Closed T N (with' D i)∧∀a w,jv Φ X W n st es T D a w->wpOp P ops Q i (jv Φ X W n st es T (with' D i)) a w:=by
 have lF:∀j,after T i j=true->j<N->D j=true:=fun j hj hjN=>by
  obtain ⟨_,h⟩:=H.back i j hi hjN hj
  rcases h with h | ⟨d,hd,h1,h2⟩
  ·exact rU j h
  ·exact hC d j (rU d h1) h2 hjN
 refine ⟨fun m j hm hj hjN=>?_,fun a w ⟨ρ,hG,hinv⟩=>?_⟩
 ·simp only [with',Bool.or_eq_true,beq_iff_eq] at hm ⊢
  rcases hm with rfl | hm
  ·exact .inr (lF j hj hjN)
  ·exact .inr (hC m j hm hj hjN)
 ·obtain ⟨e,he⟩:∃e,es[i]?=some e:=⟨es[i]'(by rw [H.len];exact hi),List.getElem?_eq_getElem _⟩
  refine H.each i e he ρ a w _ hG (fun x hx=>?_) (fun ρ' a' w' hG' hadd hkeep=>⟨ρ',hG',fun o x hsrc hal=>?_⟩)
  ·obtain ⟨o,hso,hcl⟩:=H.need i e he x hx
   refine hinv o x ?_ (fun m hm hh=>?_)
   ·cases o with
    | none=>exact hso
    | some j=>
     obtain ⟨hjN,hj,e',he',hxe⟩:=hso
     exact ⟨lF j hj hjN,e',he',hxe⟩
   ·have hmN:m<N:=by rw [<- H.len];exact wD hh
    rcases hcl m hmN hh with rfl | h | h
    ·rw [hD] at hm;cases hm
    ·have:=hC m i hm h hi
     rw [hD] at this;cases this
    ·exact h
  ·by_cases ho:o=some i
   ·subst ho
    obtain ⟨_,e',he',hx⟩:=hsrc
    obtain rfl:e=e':=Option.some.inj (he.symm.trans he')
    exact hadd x hx
   ·have hsrc':src st es D o x:=by
     cases o with
     | none=>exact hsrc
     | some j=>
      obtain ⟨hj,h2⟩:=hsrc
      refine ⟨?_,h2⟩
      simp only [with',Bool.or_eq_true,beq_iff_eq] at hj
      rcases hj with rfl | hj
      ·exact absurd rfl ho
      ·exact hj
    have hold:=hinv o x hsrc' (fun m hm hh=>hal m (by simp [with',hm]) hh)
    refine hkeep x hold (fun y hy=>?_) (fun hs=>?_)
    ·cases hyx:x.hit y with
     | false=>rfl
     | true=>
      have hh:hits es i x=true:=by
       simp only [hits,he,Option.map_some,Option.getD_some,List.any_eq_true]
       exact ⟨y,hy,hyx⟩
      have hsp:=hal i (by simp [with']) hh
      cases o with
      | none=>cases hsp
      | some j=>
       simp only [mU,Bool.or_eq_true,beq_iff_eq] at hsp
       rcases hsp with rfl | hsp
       ·exact absurd rfl ho
       ·have:=hC j i hsrc'.1 hsp hi
        rw [hD] at this;cases this
    ·cases o with
     | none=>
      have:=H.old x hsrc' _ hs
      omega
     | some j=>
      obtain ⟨hDj,e',he',hx⟩:=hsrc'
      rcases H.add j e' he' x hx _ hs with h | h | ⟨h1,h2⟩
      ·omega
      ·have:j=i:=by omega
       exact ho (by rw [this])
      ·rw [show base+i-base=i by omega] at h2
       have:=hC j i hDj h2 hi
       rw [hD] at this;cases this
theorem ZW (H:rT P Φ X ops Q W n base N st es T) (hQ:∀a w,jv Φ X W n st es T (fun _=>true) a w->Q .normal a w) :
  ∀(fuel:Nat) (listed:Array Bool),listed.size=N->(List.range N).countP (fun j=>!listed.getD j false)<=fuel->Closed T N (fun j=>listed.getD j false)->∀a w,jv Φ X W n st es T (fun j=>listed.getD j false) a w->wpAny P .any ops Q fuel listed a w:=by
 have hfin:∀(listed:Array Bool),listed.size=N->Region.ready .any ops listed = []->∀a w,jv Φ X W n st es T (fun j=>listed.getD j false) a w->Q .normal a w:=by
  intro listed hsz hr a w hinv
  have hall:∀i,i<N->listed.getD i false=true:=by
   intro i
   induction i using Nat.strongRecOn with
   | _ i ih=>
    intro hi
    cases hl:listed.getD i false with
    | true=>rfl
    | false=>
     have:i ∈ Region.ready .any ops listed:=by
      refine mem_ready.2 ⟨?_,?_⟩
      ·rw [Array.getD_eq_getD_getElem?] at hl ⊢
       rw [Array.getElem?_eq_getElem (by omega)] at hl ⊢
       exact hl
      ·obtain ⟨o,ho⟩:∃o,ops[i]?=some o:=⟨ops[i]'(by rw [H.size];exact hi),Array.getElem?_eq_getElem _⟩
       refine ⟨o,ho,fun e he hb=>?_⟩
       have hd:direct ops i e.on=true:=by
        simp only [direct,ho,Option.map_some,Option.getD_some,List.any_eq_true,Bool.and_eq_true,beq_iff_eq]
        exact ⟨e,by simpa using he,hb,rfl⟩
       have h1:=H.Fo i _ hd
       have h2:=(H.down i _ hi h1 hd).1
       exact ih _ h2 h1
     rw [hr] at this;cases this
  obtain ⟨ρ,hG,hx⟩:=hinv
  refine hQ a w ⟨ρ,hG,fun o x hs hal=>hx o x ?_ (fun m hm hh=>hal m rfl hh)⟩
  cases o with
  | none=>exact hs
  | some j=>
   obtain ⟨_,e,he,h⟩:=hs
   exact ⟨hall j (by rw [<- H.len];exact (List.getElem?_eq_some_iff.1 he).1),e,he,h⟩
 intro fuel
 induction fuel with
 | zero=>
  intro listed hsz hcnt hC a w hinv
  have hr:Region.ready .any ops listed = []:=by
   cases hr:Region.ready .any ops listed with
   | nil=>rfl
   | cons i l=>
    exfalso
    have hm:i ∈ Region.ready .any ops listed:=by rw [hr];simp
    obtain ⟨h1,o,ho,_⟩:=mem_ready.1 hm
    have hi:i<N:=by rw [<- H.size];exact (Array.getElem?_eq_some_iff.1 ho).1
    have h2:listed.getD i false=false:=by
     rw [Array.getD_eq_getD_getElem?] at h1 ⊢
     rw [Array.getElem?_eq_getElem (by omega)] at h1 ⊢
     exact h1
    have h0:=List.countP_eq_zero.1 (Nat.le_zero.1 hcnt) i (by simpa using hi)
    rw [h2] at h0
    exact h0 rfl
  exact ⟨hr,hfin listed hsz hr a w hinv⟩
 | succ fuel ih=>
  intro listed hsz hcnt hC a w hinv
  refine ⟨fun hr=>hfin listed hsz hr a w hinv,fun i hm=>?_⟩
  obtain ⟨h1,o,ho,lF⟩:=mem_ready.1 hm
  have hi:i<N:=by rw [<- H.size];exact (Array.getElem?_eq_some_iff.1 ho).1
  have h2:listed.getD i false=false:=by
   rw [Array.getD_eq_getD_getElem?] at h1 ⊢
   rw [Array.getElem?_eq_getElem (by omega)] at h1 ⊢
   exact h1
  have rU:∀d,direct ops i d=true->listed.getD d false=true:=fun d hd=>by
   simp only [direct,ho,Option.map_some,Option.getD_some,List.any_eq_true,Bool.and_eq_true,beq_iff_eq] at hd
   obtain ⟨e,he,hb,rfl⟩:=hd
   exact lF e (by simpa using he) hb
  obtain ⟨hC',hstep⟩:=Fp H (D:=fun j=>listed.getD j false) hi h2 rU hC
  have hset:(fun j=>(listed.setIfInBounds i true).getD j false)=with' (fun j=>listed.getD j false) i:=by
   funext j
   by_cases hj:i=j
   ·subst hj
    simp [with',Array.getD_eq_getD_getElem?,hsz,hi]
   ·simp [with',getD_set_ne false hj,Ne.symm hj]
  refine wpOp_mono (fun a' w' h=>ih (listed.setIfInBounds i true) (by simpa using hsz) ?_ (by rw [hset];exact hC') a' w' (by rw [hset];exact h)) (hstep a w hinv)
  have hlt:(List.range N).countP (fun j=>!(listed.setIfInBounds i true).getD j false)<(List.range N).countP (fun j=>!listed.getD j false):=by
   have hmem:i ∈ List.range N:=by simpa using hi
   obtain ⟨l1,l2,hl⟩:=List.append_of_mem hmem
   have hle:∀l:List Nat,l.countP (fun j=>!(listed.setIfInBounds i true).getD j false)<=l.countP (fun j=>!listed.getD j false):=fun l=>
    List.countP_mono_left fun j _ hj=>by
     have:=congrFun hset j
     rw [this] at hj
     simp only [with',Bool.not_or,Bool.and_eq_true] at hj
     exact hj.2
   rw [hl,List.countP_append,List.countP_append,List.countP_cons,List.countP_cons]
   have e1:(!(listed.setIfInBounds i true).getD i false)=false:=by
    have:=congrFun hset i
    rw [this];simp [with']
   have e2:(!listed.getD i false)=true:=by rw [h2];rfl
   rw [e1,e2]
   have:=hle l1;have:=hle l2
   simp only [Bool.false_eq_true,if_false,if_true]
   omega
  omega
end
theorem pm {x:It}{l:List It} (h:l.any (fun y=>y.beq x)=true):x ∈ l:=by
 obtain ⟨y,hy,e⟩:=List.any_eq_true.1 h
 rw [<- It.dN e];exact hy
theorem Fq {T:Array Nat}{es:List Eff}{N:Nat}{o:Option Nat}{x:It} (h:wA T es N i o x=true):∀m,m<N->hits es m x=true->m=i∨after T m i=true∨mU T m o=true:=fun m hm hh=>by
 have:=List.all_eq_true.1 h m (by simpa using hm)
 rw [hh] at this
 simp only [Bool.not_true,Bool.false_or,Bool.or_eq_true,beq_iff_eq] at this
 rcases this with (h1 | h2) | h3
 ·exact .inl h1
 ·exact .inr (.inl h2)
 ·exact .inr (.inr h3)
section
variable {P:Program}{ops:Array Oper}{base N:Nat}{st:List It}{es:List Eff}{T:Array Nat}
theorem ZX (h:wC ops T st base N es=true) (hN:ops.size=N) (hl:es.length=N) (ho:∀i e,es[i]?=some e->mO P Φ X ops Q W n i (base+i) e):rT P Φ X ops Q W n base N st es T:=by
 simp only [wC,Bool.and_eq_true] at h
 obtain ⟨⟨⟨h1,h2⟩,h3⟩,h4⟩:=h
 have lF:∀i j,i<N->j<N->(direct ops i j=true->j<i∧after T i j=true)∧(after T i j=true->j<i∧(direct ops i j=true∨∃d,d<N∧direct ops i d=true∧after T d j=true)):=fun i j hi hj=>by
  have:=List.all_eq_true.1 (List.all_eq_true.1 h1 i (by simpa using hi)) j (by simpa using hj)
  simp only [Bool.and_eq_true,Bool.or_eq_true,Bool.not_eq_true',decide_eq_true_eq,List.any_eq_true,List.mem_range] at this
  refine ⟨fun hd=>?_,fun ha=>?_⟩
  ·rcases this.1 with h | h
   ·rw [hd] at h;cases h
   ·exact h
  ·rcases this.2 with h | h
   ·rw [ha] at h;cases h
   ·exact h
 have hget:∀i e,es[i]?=some e->(e.need.all (wB st T es N i)=true)∧∀x,x ∈ e.add->∀s,s ∈ x.sts->s<base∨s=base+i∨(base<=s∧after T i (s-base)=true):=fun i e he=>by
  have hi:i<N:=by rw [<- hl];exact (List.getElem?_eq_some_iff.1 he).1
  have:=List.all_eq_true.1 h4 i (by simpa using hi)
  simp only [he,Option.map_some,Option.getD_some,Bool.and_eq_true] at this
  refine ⟨this.1,fun x hx s hs=>?_⟩
  have h5:=List.all_eq_true.1 (List.all_eq_true.1 this.2 x hx) s hs
  simp only [Bool.or_eq_true,decide_eq_true_eq,beq_iff_eq,Bool.and_eq_true] at h5
  rcases h5 with (h5 | h5) | h5
  ·exact .inl h5
  ·exact .inr (.inl h5)
  ·exact .inr (.inr h5)
 refine ⟨hN,hl,ho,fun i j hi hj=>(lF i j hi hj).1,fun i j hi hj=>(lF i j hi hj).2,fun i j hd=>?_,fun x hx s hs=>?_,fun i e he x hx=>?_,fun i e he=>(hget i e he).2⟩
 ·unfold direct at hd
  cases hi:ops[i]? with
  | none=>simp [hi] at hd
  | some o=>
   simp only [hi,Option.map_some,Option.getD_some,List.any_eq_true,Bool.and_eq_true,beq_iff_eq] at hd
   obtain ⟨e,he,hb,rfl⟩:=hd
   have:=List.all_eq_true.1 (List.all_eq_true.1 h2 o (by obtain ⟨hi,rfl⟩:=Array.getElem?_eq_some_iff.1 hi;simp)) e he
   rw [hb] at this
   simpa using this
 ·simpa using List.all_eq_true.1 (List.all_eq_true.1 h3 x hx) s hs
 ·have:=List.all_eq_true.1 (hget i e he).1 x hx
  simp only [wB,Bool.or_eq_true,Bool.and_eq_true,List.any_eq_true,List.mem_range] at this
  rcases this with ⟨h5,h6⟩ | ⟨j,hj,⟨h5,h6⟩,h7⟩
  ·exact ⟨none,pm (List.any_eq_true.2 h5),Fq h6⟩
  ·refine ⟨some j,⟨hj,h5,?_⟩,Fq h7⟩
   cases hej:es[j]? with
   | none=>simp [hej] at h6
   | some e'=>
    simp only [hej,Option.map_some,Option.getD_some] at h6
    exact ⟨e',rfl,pm h6⟩
theorem ZY (H:rT P Φ X ops Q W n base N st es T) (hQ:∀a w,jv Φ X W n st es T (fun _=>true) a w->Q .normal a w) :
  ∀(m i:Nat),i+m=N->∀a w,jv Φ X W n st es T (fun j=>decide (j<i)) a w->wpOps P ops Q (List.range' i m) a w:=by
 intro m
 induction m with
 | zero=>
  intro i hi a w ⟨ρ,hG,hx⟩
  refine hQ a w ⟨ρ,hG,fun o x hs hal=>hx o x ?_ (fun m hm hh=>hal m rfl hh)⟩
  cases o with
  | none=>exact hs
  | some j=>
   obtain ⟨_,e,he,h⟩:=hs
   have:j<N:=by rw [<- H.len];exact (List.getElem?_eq_some_iff.1 he).1
   exact ⟨by simpa using (show j<i by omega),e,he,h⟩
 | succ m ih=>
  intro i hi a w hinv
  rw [List.range'_succ,wpOps_cons]
  obtain ⟨_,hstep⟩:=Fp H (D:=fun j=>decide (j<i)) (i:=i) (by omega) (by simp) (fun d hd=>by simpa using (H.down i d (by omega) (H.Fo i d hd) hd).1) (fun p q hp hq hqN=>by
   have hp':p<i:=by simpa using hp
   have:=(H.back p q (by omega) hqN hq).1
   simpa using (show q<i by omega))
  refine wpOp_mono (fun a' w' h=>ih (i+1) (by omega) a' w' ?_) (hstep a w hinv)
  have:(fun j=>decide (j<i+1))=with' (fun j=>decide (j<i)) i:=by
   funext j
   rw [Bool.eq_iff_iff]
   simp only [with',decide_eq_true_eq,Bool.or_eq_true,beq_iff_eq]
   omega
  rw [this];exact h
end
def pn (P:Program) (n base:Nat) (ops:Array Oper) (st:List It) (ss:List Site):Option (List It×List Site):=
 match pj P ops n base ops.toList 0 st ss with
 | some (es,r)=>if wC ops (Region.before ops) st base ops.size es then some (ZV (Region.before ops) st ops.size es,r) else none
 | none=>none
def cZ (Φ:Nat->World->Value->Prop) (X:Nat->Prop) (W:World) (n:Nat) (st:List It) (a:Act) (w:World):Prop:=∃ρ,Good X W n ρ a w∧∀x,x ∈ st->x.holds Φ X ρ a w
theorem ZZ {st:List It} (h:cZ Φ X W n st a w):cZ Φ X W n st a { w with drawn:=w.drawn+1 }:=by
 obtain ⟨ρ,hG,hx⟩:=h
 have hs:eo X W n 0 [] ρ w ρ w.drew:=.of (fun _ _=>rfl) (fun _ _=>rfl) (fun a h=>⟨h.defers,h.size,aR h.grown (dl w none),h.inj,h.lo,h.old,h.loose,h.apart,h.one,h.far⟩) (fun _ _ _ _ _ _ h1 h2=>⟨h1,h2⟩) (Off.grown (dl w none)) (fun _ j _ h=>⟨j,h⟩) rfl
 refine ⟨ρ,hs.good a hG,fun x hx'=>?_⟩
 have h:=hx x hx'
 cases x with
 | slot t v=>exact h
 | cell k o y=>exact h
 | fact y p=>exact fun w' hw=>h w' (hs.off.trans hw (fun _ _ h=>h))
 | held J y p=>exact fun w' hw=>h w' ((hs.tight J fun y hy=>by cases hy).trans hw (fun _ _ h=>h))
 | lo j y=>exact h
 | dV J y=>exact h
section
variable {P:Program}{base:Nat}
theorem aaa {ops:Array Oper}{st st':List It}{r:List Site}{id:Nat}{draw:Bool} (h:pn P n base ops st ss=some (st',r)) (hm:draw=true->P.follows .mixedOrders=true) (hs:∀s,s ∈ ss->aj Φ P s)
  (hQ:∀a w,cZ Φ X W n st' a w->Q .normal a w) (hK:cZ Φ X W n st a w):(Code.region id ops draw).wp P Q a w:=by
 unfold pn at h
 split at h
 case h_2=>cases h
 rename_i es r' he
 split at h
 case isFalse=>cases h
 rename_i hok
 simp only [Option.some.injEq,Prod.mk.injEq] at h
 obtain ⟨rfl,rfl⟩:=h
 obtain ⟨h1,h2,_⟩:=wz (X:=X) (Q:=Q) (W:=W) he (fun j o hj=>by simpa using hj) hs
 have H:=ZX (Q:=Q) hok rfl (by simpa using h1) (fun i e hi=>by have:=h2 i e hi;simpa using this)
 have hfin:∀a w,jv Φ X W n st es (Region.before ops) (fun _=>true) a w->Q .normal a w:=fun a w ⟨ρ,hG,hx⟩=>by
  refine hQ a w ⟨ρ,hG,fun x hx'=>?_⟩
  rcases List.mem_append.1 hx' with hx' | hx'
  ·obtain ⟨j,hj,hx'⟩:=List.mem_flatMap.1 hx'
   cases hej:es[j]? with
   | none=>simp [hej] at hx'
   | some e=>
    simp only [hej,Option.map_some,Option.getD_some,List.mem_filter] at hx'
    refine hx (some j) x ⟨rfl,e,hej,hx'.1⟩ (fun m _ hh=>?_)
    have:=List.all_eq_true.1 hx'.2 m (by have:=wD hh;rw [h1] at this;simpa using this)
    rw [hh] at this
    simpa using this
  ·rw [List.mem_filter] at hx'
   refine hx none x hx'.1 (fun m _ hh=>?_)
   have:=List.all_eq_true.1 hx'.2 m (by have:=wD hh;rw [h1] at this;simpa using this)
   rw [hh] at this
   cases this
 have hst:∀(D:Nat->Bool),(∀j,D j=false)->∀a w,cZ Φ X W n st a w->jv Φ X W n st es (Region.before ops) D a w:=fun D hD a w ⟨ρ,hG,hx⟩=>by
  refine ⟨ρ,hG,fun o x hs _=>?_⟩
  cases o with
  | none=>exact hx x hs
  | some j=>have:=hs.1;rw [hD] at this;cases this
 cases draw with
 | false=>
  refine wp_region ?_
  rw [List.range_eq_range']
  exact ZY H hfin ops.size 0 (by simp) a w (hst _ (fun j=>by simp) a w hK)
 | true=>
  refine wp_region_any (hm rfl) ?_
  have hf:∀j,(Array.replicate ops.size false).getD j false=false:=fun j=>by
   rw [Array.getD_eq_getD_getElem?,Array.getElem?_replicate]
   split <;> rfl
  refine ZW H hfin ops.size _ (by simp) ?_ (fun i j hi=>?_) a _ (hst _ hf a _ (ZZ hK))
  ·exact Nat.le_trans List.countP_le_length (by simp)
  ·have hi':=hf i;simp only at hi;rw [hi'] at hi;cases hi
end
inductive Ex where
 | normal | exit (id:Nat) | ret
def Ex.to:Ex->Exit
 | .normal=>.normal
 | .exit id=>.exit id
 | .ret=>.ret
def run (P:Program) (n:Nat):Code->List It->Nat->List Site->Option (Ex×List It×Nat×List Site)
 | .skip,st,k,ss=>some (.normal,st,k,ss)
 | .label _,st,k,ss=>some (.normal,st,k,ss)
 | .region _ ops draw,st,k,ss=>if !draw || P.follows .mixedOrders then (match pn P n k ops st ss with
  | some (st',r)=>some (.normal,st',k+ops.size,r)
  | none=>none) else none
 | .seq a b,st,k,ss=>match run P n a st k ss with
  | some (.normal,st',k',ss')=>run P n b st' k' ss'
  | r=>r
 | .cond c t e,st,k,ss=>match val st c with
  | some (.c (.one (.cb b)),_)=>if b then run P n t st k ss else run P n e st k ss
  | _=>none
 | .block id c,st,k,ss=>match run P n c st k ss with
  | some (.exit j,st',k',ss')=>some (if j=id then .normal else .exit j,st',k',ss')
  | r=>r
 | .exit id,st,k,ss=>some (.exit id,st,k,ss)
 | .ret,st,k,ss=>some (.ret,st,k,ss)
 | _,_,_,_=>none
theorem gP {t:Nat}{v:SV}:∀{st:List It},fp st t=some v->It.slot t v ∈ st
 | .slot u x :: l,h=>by
  simp only [fp] at h
  split at h
  ·rename_i e
   simp at e h;subst e;subst h;simp
  ·exact List.mem_cons_of_mem _ (gP h)
 | .cell _ _ _ :: l,h=>List.mem_cons_of_mem _ (gP (st:=l) h)
 | .fact _ _ :: l,h=>List.mem_cons_of_mem _ (gP (st:=l) h)
 | .held _ _ _ :: l,h=>List.mem_cons_of_mem _ (gP (st:=l) h)
 | .lo _ _ :: l,h=>List.mem_cons_of_mem _ (gP (st:=l) h)
 | .dV _ _ :: l,h=>List.mem_cons_of_mem _ (gP (st:=l) h)
theorem aab {st:List It}{v:SV}{l:List It} (h:val st x=some (v,l)):∀y,y ∈ l->y ∈ st:=by
 cases x with
 | tmp t=>
  simp only [val] at h
  cases hs:fp st t with
  | none=>simp [hs] at h
  | some u=>
   simp [hs] at h
   obtain ⟨rfl,rfl⟩:=h
   intro y hy
   simp at hy;subst hy
   exact gP hs
 | const u=>
  simp only [val] at h
  cases hs:mK u with
  | none=>simp [hs] at h
  | some y=>simp [hs] at h;rw [h.2];simp
 | global g=>simp [val] at h
 | func f=>
  simp only [val,Option.some.injEq,Prod.mk.injEq] at h
  obtain ⟨rfl,rfl⟩:=h
  intro y hy;cases hy
section
variable {P:Program}
end
def lG (P:Program) (st:List It):ResultVar->Option C
 | .tmp t=>match fp st t with
  | some (.c x)=>some x
  | _=>none
 | .cell t ty=>match fp st t with
  | some (.c (.one (.ptr k o)))=>(kf P st ty k o).map (·.1)
  | _=>none
def mV (y:C) (p:Nat):It->Bool
 | .fact x q=>q == p && x.beq y
 | .held _ x q=>q == p && x.beq y
 | _=>false
theorem wE {st:List It} (h:st.any (mV y p)=true) (hx:∀x,x ∈ st->x.holds Φ X ρ a w):∀w1,Off X w w1->Φ p w1 (y.ev ρ):=by
 obtain ⟨z,hz,hb⟩:=List.any_eq_true.1 h
 have hz':=hx z hz
 intro w1 hw
 cases z <;> simp only [mV,Bool.and_eq_true,beq_iff_eq,Bool.false_eq_true] at hb
 ·obtain ⟨rfl,e⟩:=hb
  rw [<- C.dN e];exact hz' w1 (hw.wide fun _ h=>.inl h)
 ·obtain ⟨rfl,e⟩:=hb
  rw [<- C.dN e];exact hz' w1 (hw.wide fun _ h=>.inl h)
def lH (st:List It):List C->List Out->Bool
 | [],[]=>true
 | c :: cs,o :: os=>mN c o.sh && o.fs.all (fun q=>st.any (mV (bm q.1 q.2.1 c) q.2.2)) && lH st cs os
 | _,_=>false
def wF (k:Nat):Nat->Nat->List Out->List It
 | _,_,[]=>[]
 | j,c,o :: os=>.slot j (.c (o.sh.comp k c)) :: wF k (j+1) (c+o.sh.len) os
def start (ins:List Out):List It:=wF 0 0 0 ins ++ facts 0 0 ins
section
variable {P:Program}
theorem Fr {st:List It}:∀{n o:Nat}{l:List Atom},fy st k o n=some l->∀y,y ∈ fq k o l->y ∈ st:=by
 have hf:∀{st:List It}{k o:Nat}{a:Atom},findCell st k o=some a->It.cell k o a ∈ st:=by
  intro st
  induction st with
  | nil=>intro k o a h;simp [findCell] at h
  | cons x l ih=>
   intro k o a h
   cases x with
   | slot t v=>exact List.mem_cons_of_mem _ (ih h)
   | fact y p=>exact List.mem_cons_of_mem _ (ih h)
   | held J y p=>exact List.mem_cons_of_mem _ (ih h)
   | lo j y=>exact List.mem_cons_of_mem _ (ih h)
   | dV J y=>exact List.mem_cons_of_mem _ (ih h)
   | cell k' o' a'=>
    simp only [findCell] at h
    split at h
    ·rename_i e
     simp at e h
     obtain ⟨rfl,rfl⟩:=e;subst h;simp
    ·exact List.mem_cons_of_mem _ (ih h)
 intro n
 induction n with
 | zero=>intro o l h;simp [fy] at h;subst h;intro y hy;cases hy
 | succ n ih=>
  intro o l h
  simp only [fy] at h
  split at h
  ·rename_i a l' h1 h2
   simp at h;subst h
   intro y hy
   rcases List.mem_cons.1 hy with rfl | hy
   ·exact hf h1
   ·exact ih h2 y hy
  ·cases h
theorem aac {st:List It}{t o:Nat}{x:C}{l:List It} (h:kf P st t k o=some (x,l)):∀y,y ∈ l->y ∈ st:=by
 unfold kf at h
 split at h
 ·rename_i n _ _
  cases hc:fy st k o n with
  | none=>simp [hc] at h
  | some cs=>simp [hc] at h;obtain ⟨_,rfl⟩:=h;exact Fr hc
 ·cases hc:findCell st k o with
  | none=>simp [hc] at h
  | some a=>
   simp [hc] at h
   obtain ⟨_,rfl⟩:=h
   refine Fr (n:=1) (l:=[a]) ?_
   simp [fy,hc]
 ·cases h
def rV (tmps:Array Value):ResultVar->Sem Value
 | .tmp t=>pure (tmps.getD t undef)
 | .cell b t=>do loadVar t (<- asAddr (tmps.getD b undef))
theorem Fs (fn:Func) (tmps:Array Value):results fn tmps=(do let vs <- fn.results.mapM (rV tmps);pure (if h:vs.size=1 then vs[0] else .tuple vs)):=by
 unfold results
 congr 1
theorem wG {st:List It}{ρ:Env}{a:Act}{w:World} (hx:∀x,x ∈ st->x.holds Φ X ρ a w):∀{rs:List ResultVar}{cs:List C},rs.mapM (lG P st)=some cs->
  (rs.mapM (rV a.tmps)).run P w = .ok (cs.map (C.ev ρ)) w
 | [],cs,h=>by simp at h;subst h;simp
 | r :: rs,cs,h=>by
  simp only [List.mapM_cons,Option.bind_eq_bind,Option.pure_def] at h
  cases hr:lG P st r with
  | none=>simp [hr] at h
  | some c=>
   cases hrs:rs.mapM (lG P st) with
   | none=>simp [hr,hrs] at h
   | some cs'=>
    simp [hr,hrs] at h
    subst h
    have ih:=wG hx hrs
    have h1:(rV a.tmps r).run P w = .ok (c.ev ρ) w:=by
     cases r with
     | tmp t=>
      simp only [lG] at hr
      split at hr
      ·rename_i y hs
       simp at hr;subst hr
       have:a.tmps.getD t undef=(SV.c y).ev ρ:=rE (hx _ (gP hs))
       simp only [rV,this,SV.ev,Sem.run_pure]
      ·cases hr
     | cell b t=>
      simp only [lG] at hr
      split at hr
      ·rename_i k o hs
       cases hl:kf P st t k o with
       | none=>simp [hl] at hr
       | some q=>
        simp [hl] at hr;subst hr
        have h2:a.tmps.getD b undef=(Atom.ptr k o).ev ρ:=rE (v:=(SV.c (.one (.ptr k o))).ev ρ) (hx _ (gP hs))
        have h3:=ER (P:=P) (x:=q.1) (l:=q.2) hl (fun y hy=>hx y (aac (x:=q.1) (l:=q.2) hl y hy))
        show (do loadVar t (<- asAddr (a.tmps.getD b undef)):Sem Value).run P w=_
        rw [h2]
        simp only [Instr.loadAt,Atom.ev,Instr.sureAddr,Sem.run_bind,Sem.run_pure,Result.andThen_ok] at h3
        simp only [Atom.ev,asAddr,Sem.run_bind,Sem.run_pure,Result.andThen_ok,h3]
      ·cases hr
    simp only [List.mapM_cons,Sem.run_bind,h1,Result.andThen_ok,ih,Sem.run_pure,List.map_cons]
theorem wH {st:List It}{ρ:Env}{a:Act}{w:World} (hx:∀x,x ∈ st->x.holds Φ X ρ a w):∀{cs:List C}{os:List Out},lH st cs os=true->ch Φ X w os (cs.map (C.ev ρ))
 | [],[],_=>trivial
 | c :: cs,o :: os,h=>by
  simp only [lH,Bool.and_eq_true] at h
  refine ⟨⟨rM h.1.1 ρ,fun q hq w1 hw=>?_⟩,wH hx h.2⟩
  have:=wE (List.all_eq_true.1 h.1.2 q hq) hx w1 hw
  rwa [mL] at this
 | [],_ :: _,h=>by simp [lH] at h
 | _ :: _,[],h=>by simp [lH] at h
theorem ch.length {w:World}:∀{os:List Out}{us:List Value},ch Φ X w os us->us.length=os.length
 | [],[],_=>rfl
 | _ :: _,_ :: _,h=>by simp [ch.length h.2]
 | [],_ :: _,h=>h.elim
 | _ :: _,[],h=>h.elim
theorem wI (k:Nat):∀{os:List Out}{j c:Nat}{x:It},x ∈ wF k j c os->∃m y,x = .slot (j+m) (.c y)∧(kj k c os)[m]?=some y
 | [],_,_,_,h=>by cases h
 | o :: os,j,c,x,h=>by
  rcases List.mem_cons.1 h with rfl | h
  ·exact ⟨0,_,rfl,rfl⟩
  ·obtain ⟨m,y,h1,h2⟩:=wI k h
   exact ⟨m+1,y,by rw [h1,show j+1+m=j+(m+1) by omega],by simpa [kj] using h2⟩
end
inductive fT where
 | slot (t:Nat) | cell (b o:Nat)
 | two (t u:Tmp)
inductive LC where
 | one (i:Nat) | agg (l:List Nat)
inductive Src where
 | frm (p:Nat) | closed (x:C) | own (p j:Nat)
inductive LF where
 | cD (J:List Nat) (p:Nat) | lo (j:Nat)
instance (n : Nat) : OfNat LF n := ⟨.cD [] n⟩
def LF.pr (Ψ:Nat->World->Value->Prop):LF->World->Value->Prop
 | .cD _ p=>Ψ p
 | .lo _=>fun _ _=>True
def LF.item (x:C):LF->It
 | .cD J p=>lE J x p
 | .lo j=>match x with
  | .one a=>.lo j a
  | .agg _=>.lo j .nl
def LF.grp:LF->List Nat
 | .cD J _=>J
 | .lo _=>[]
structure bJ where
 keep:List Nat
 vars:List (fT×Sh)
 facts:List (LC×LF)
 init:List Src
 m:Nat
 post:List (Nat×Nat)
inductive Step where
 | base (s:Site)
 | loop (d:bJ) (rounds:List (List Step×List Src)) (out:List Step)
 | rounds (m:Nat)
 | derive (y:C) (sh:bW) (fs:List (Nat×Nat×Nat)) (p:Nat)
 | freed (y:C) (p q:Nat)
 | shut (j:Nat)
 | narrow (j:Nat) (v i p s:Atom) (q q':Nat)
variable {l:List Step}
def wJ (i j k:Nat):Nat:=if k=i then j else if k=j then i else k
def It.sw (i j:Nat):It->It
 | .held J x p=>.held (J.map (wJ i j)) x p
 | .lo k a=>.lo (wJ i j k) a
 | .dV J a=>.dV (J.map (wJ i j)) a
 | x=>x
def It.cl (j:Nat):It->Option It
 | .held J x p=>some (.held (J.filter fun k=>k != j) x p)
 | .lo k a=>if k=j then none else some (.lo k a)
 | .dV J a=>if J.contains j then none else some (.dV J a)
 | x=>some x
def It.nr (j:Nat) (v:Atom):It->Option It
 | .lo k a=>if k=j && !(a.beq v) then none else some (.lo k a)
 | .dV J a=>if J.contains j then none else some (.dV J a)
 | x=>some x
def rW (st:List It):fT->Option Atom
 | .slot t=>match fp st t with
  | some (.c (.one y))=>some y
  | _=>none
 | .cell b o=>findCell st b o
 | .two t u=>match fp st t,fp st u with
  | some (.c (.one y)),some (.c (.one z))=>if y.beq z then some y else none
  | _,_=>none
def jw (x:Atom):fT->List It
 | .slot t=>[.slot t (.c (.one x))]
 | .cell b o=>[.cell b o x]
 | .two t u=>[.slot t (.c (.one x)),.slot u (.c (.one x))]
def LC.sel (l:List Atom):LC->C
 | .one i=>.one (l.getD i .un)
 | .agg js=>.agg (js.map fun i=>l.getD i .un)
def jx (k:Nat):Nat->List (fT×Sh)->List Atom
 | _,[]=>[]
 | c,v :: vs=>v.2.atom k c :: jx k (c+1) vs
def wK (k:Nat):Nat->List (fT×Sh)->List It
 | _,[]=>[]
 | c,v :: vs=>jw (v.2.atom k c) v.1 ++ wK k (c+1) vs
def isVar (d:bJ) (k:Key):Bool:=d.vars.any fun v=>(jw .un v.1).any (·.hit k)
def wL (d:bJ):It->Bool
 | .slot t _=>d.keep.contains t && !isVar d (.slot t)
 | .cell b o _=>!isVar d (.cell b o)
 | .fact _ p=>decide (p<d.m)
 | .held J _ p=>decide (p<d.m) && J.all fun j=>!d.facts.any fun f=>f.2.grp.contains j
 | .lo j _=>!d.facts.any fun f=>match f.2 with
  | .lo i=>i == j
  | _=>false
 | .dV _ _=>true
def kept (d:bJ) (st:List It):List It:=st.filter (wL d)
def pp (d:bJ) (st:List It) (k:Nat):List It:=
 wK k 0 d.vars ++ (d.facts.map fun f=>f.2.item (f.1.sel (jx k 0 d.vars))) ++ kept d st
def varsOf (st:List It):List (fT×Sh)->Option (List Atom)
 | []=>some []
 | v :: vs=>match rW st v.1,varsOf st vs with
  | some y,some ys=>if lw y v.2 && v.2.good then some (y :: ys) else none
  | _,_=>none
def pt (J:List Nat) (y:C) (p:Nat) (z:It):Bool:=z.beq (.fact y p) || pd J y p z
def LF.aad:LF->Bool
 | .cD _ _=>true
 | .lo _=>false
def LF.Ft (st:List It) (y:C) (p:Nat):LF->Bool
 | .cD J _=>st.any (pt J y p)
 | .lo j=>match y with
  | .one a=>a.beq .nl || st.any (fun z=>z.beq (.lo j a))
  | .agg _=>true
def LF.Fu (st:List It) (y:C) (p j:Nat):LF->Bool
 | .cD J _=>J.contains j && (st.any (mV y p) && match y with
  | .one a=>st.any (fun z=>z.beq (.lo j a))
  | .agg _=>false)
 | .lo _=>false
def jy (st:List It) (ys:List Atom):List (LC×LF)->List Src->Bool
 | [],[]=>true
 | f :: fs,.frm p :: ss=>f.2.Ft st (f.1.sel ys) p && jy st ys fs ss
 | f :: fs,.closed x :: ss=>x.beq (f.1.sel ys) && x.sts.isEmpty && f.2.aad && jy st ys fs ss
 | f :: fs,.own p j :: ss=>f.2.Fu st (f.1.sel ys) p j && jy st ys fs ss
 | _,_=>false
def rX (d:bJ) (st st0:List It) (k:Nat) (ss:List Src):Bool:=
 (kept d st0).all (fun x=>st.any (fun y=>y.beq x) && !x.sts.contains k) && match varsOf st d.vars with
 | some ys=>jy st ys d.facts ss
 | none=>false
def rY (d:bJ) (st:List It):List It:=st.filterMap fun
 | .fact x p=>if p<d.m then some (.fact x p) else (d.post.find? fun q=>q.1 == p).map fun q=>.fact x q.2
 | .held J x p=>if p<d.m then some (.held J x p) else (d.post.find? fun q=>q.1 == p).map fun q=>.held J x q.2
 | x=>some x
def bases:List Step->List Site×List Step
 | .base s :: l=>let r:=bases l;(s :: r.1,r.2)
 | l=>([],l)
section
variable (P:Program)
def jz (Φ Ψ:Nat->World->Value->Prop):List (LC×LF)->List Src->Prop
 | [],[]=>True
 | f :: fs,.frm p :: ss=>(∀w v,Φ p w v->f.2.pr Ψ w v)∧jz Φ Ψ fs ss
 | f :: fs,.closed x :: ss=>(∀w,f.2.pr Ψ w (x.ev cV))∧jz Φ Ψ fs ss
 | f :: fs,.own p _ :: ss=>(∀w w1 v,Φ p w v->Kp w w1->(∀g,blk v=some g->w1.heap[g]?=w.heap[g]?)->f.2.pr Ψ w1 v)∧jz Φ Ψ fs ss
 | _,_=>False
inductive cg:(Nat->World->Value->Prop)->Step->Prop where
 | rounds {Φ:Nat->World->Value->Prop}{m:Nat}:cg Φ (.rounds m)
 | derive {Φ:Nat->World->Value->Prop}{y:C}{sh:bW}{fs:List (Nat×Nat×Nat)}{p:Nat} (h:∀(X:Nat->Prop) (w:World) (v:Value),(Arg.parts sh fs).ok Φ X w v->(Arg.fact p).ok Φ X w v):cg Φ (.derive y sh fs p)
 | freed {Φ:Nat->World->Value->Prop}{y:C}{p q:Nat} (h:∀(w w':World) (v:Value),Φ p w v->Φ q w' v):cg Φ (.freed y p q)
 | shut {Φ:Nat->World->Value->Prop}{j:Nat}:cg Φ (.shut j)
 | narrow {Φ:Nat->World->Value->Prop}{j:Nat}{v i p s:Atom}{q q':Nat} (h:∀(X:Nat->Prop) (w:World) (v i p s:Value),(∀w1,Off X w w1->Φ q w1 (.agg #[v,i,p,s]))->∀w1,Off (fun k=>X k∨blk v=some k) w w1->Φ q' w1 s):cg Φ (.narrow j v i p s q q')
 | base {Φ:Nat->World->Value->Prop}{s:Site} (h:aj Φ P s):cg Φ (.base s)
 | loop {Φ:Nat->World->Value->Prop}{d:bJ}{rounds:List (List Step×List Src)}{out:List Step} (J:Type) (Ψ:J->Nat->World->Value->Prop) (μ:J->Nat) (go:J->Prop) (j0:J) (pick:J->Nat) (nx:J->J)
   (hΨ:∀j p,p<d.m->Ψ j p=Φ p) (h0:jz Φ (Ψ j0) d.facts d.init)
   (hp:∀j,go j->pick j<rounds.length) (hμ:∀j,go j->μ (nx j)<μ j)
   (hn:∀j,go j->∀r,rounds[pick j]?=some r->jz (Ψ j) (Ψ (nx j)) d.facts r.2)
   (hs:∀j,go j->∀r,rounds[pick j]?=some r->∀t,t ∈ r.1->cg (Ψ j) t)
   (ho:∀j,¬go j->∀t,t ∈ out->cg (Ψ j) t)
   (hpost:∀j,¬go j->∀q,q ∈ d.post->∀w v,Ψ j q.1 w v->Φ q.2 w v):cg Φ (.loop d rounds out)
end
def aae (st:List It) (y:C) (p:Nat):List Nat:=if st.any (fun z=>z.beq (.fact y p)) then [] else match st.find? (mV y p) with
 | some (.held J _ _)=>J
 | _=>[]
theorem wN {st:List It}{J:List Nat} (h:st.any (pt J y p)=true) (hx:∀x,x ∈ st->x.holds Φ X ρ a w):∀w1,Off (cf J X ρ) w w1->Φ p w1 (y.ev ρ):=by
 obtain ⟨z,hz,hb⟩:=List.any_eq_true.1 h
 have hz':=hx z hz
 simp only [pt,Bool.or_eq_true] at hb
 rcases hb with hb | hb
 ·rw [It.dN hb] at hz'
  exact fun w1 hw=>hz' w1 (hw.wide fun _ h=>h.own)
 ·cases z with
  | held J' x q=>
   simp only [pd,Bool.and_eq_true,beq_iff_eq,List.all_eq_true,List.contains_eq_mem,decide_eq_true_eq] at hb
   obtain ⟨rfl,hx,hJ⟩:=hb
   rw [<- C.dN hx]
   exact fun w1 hw=>hz' w1 (hw.wide fun _ h=>h.less hJ)
  | _=>cases hb
def ga (st:List It):List Step->Option (List It×List Step)
 | .derive y sh fs p :: l=>let J:=fs.flatMap fun q=>aae st (bm q.1 q.2.1 y) q.2.2
  if mN y sh && fs.all (fun q=>st.any (pt J (bm q.1 q.2.1 y) q.2.2)) then ga (lE J y p :: st) l else none
 | .freed y p q :: l=>if st.any (mV y p) then ga (.fact y q :: st) l else none
 | .shut j :: l=>ga (st.filterMap (It.cl j)) l
 | .narrow j v i p s q q' :: l=>if st.any (pt [j] (.agg [v,i,p,s]) q) then ga (.fact (.one s) q' :: st.filterMap (It.nr j v)) l else none
 | l=>some (st,l)
def rZ (f:List It->Nat->List Step->Option (Ex×List It×Nat×List Step)):Nat->List It->Nat->List Step->Option (Ex×List It×Nat×List Step)
 | 0,_,_,_=>none
 | m+1,st,k,ss=>match f st k ss with
  | some (.normal,st',k',ss')=>rZ f m st' k' ss'
  | r=>r
def dw (P:Program) (n:Nat):Code->List It->Nat->List Step->Option (Ex×List It×Nat×List Step)
 | .skip,st,k,ss=>some (.normal,st,k,ss)
 | .label _,st,k,ss=>some (.normal,st,k,ss)
 | .region _ ops draw,st,k,ss=>if !draw || P.follows .mixedOrders then (match ga st ss with
  | some (st1,ss1)=>(match pn P n k ops st1 (bases ss1).1 with
   | some (st',r)=>some (.normal,st',k+ops.size,r.map Step.base ++ (bases ss1).2)
   | none=>none)
  | none=>none) else none
 | .seq a b,st,k,ss=>match dw P n a st k ss with
  | some (.normal,st',k',ss')=>dw P n b st' k' ss'
  | r=>r
 | .cond c t e,st,k,ss=>match val st c with
  | some (.c (.one (.cb b)),_)=>if b then dw P n t st k ss else dw P n e st k ss
  | _=>none
 | .block id c,st,k,ss=>match dw P n c st k ss with
  | some (.exit j,st',k',ss')=>some (if j=id then .normal else .exit j,st',k',ss')
  | r=>r
 | .exit id,st,k,ss=>some (.exit id,st,k,ss)
 | .ret,st,k,ss=>some (.ret,st,k,ss)
 | .loop c,st,k,ss=>match ss with
  | .loop d rounds out :: rest=>
   if rX d st st k d.init && rounds.all (fun r=>match dw P n c (pp d st k) (k+1) r.1 with
    | some (.normal,st2,_,_)=>rX d st2 st k r.2
    | _=>false) then
    match dw P n c (pp d st k) (k+1) out with
    | some (.exit j,jA,k3,_)=>some (.exit j,rY d jA,k3,rest)
    | some (.ret,jA,k3,_)=>some (.ret,rY d jA,k3,rest)
    | _=>none
   else none
  | .rounds m :: rest=>rZ (fun st k ss=>dw P n c st k ss) m st k rest
  | _=>none
 | _,_,_,_=>none
theorem lI {k o:Nat}{a:Atom}:∀{st:List It},findCell st k o=some a->It.cell k o a ∈ st
 | .slot _ _ :: l,h=>List.mem_cons_of_mem _ (lI (st:=l) h)
 | .fact _ _ :: l,h=>List.mem_cons_of_mem _ (lI (st:=l) h)
 | .held _ _ _ :: l,h=>List.mem_cons_of_mem _ (lI (st:=l) h)
 | .lo _ _ :: l,h=>List.mem_cons_of_mem _ (lI (st:=l) h)
 | .dV _ _ :: l,h=>List.mem_cons_of_mem _ (lI (st:=l) h)
 | .cell k' o' a' :: l,h=>by
  simp only [findCell] at h
  split at h
  ·rename_i e
   simp at e h
   obtain ⟨rfl,rfl⟩:=e;subst h;simp
  ·exact List.mem_cons_of_mem _ (lI h)
theorem aaf {st:List It}{p:fT}{y:Atom} (h:rW st p=some y):∀z,z ∈ jw y p->z ∈ st:=fun z hz=>by
 cases p with
 | slot t=>
  obtain rfl:=List.mem_singleton.1 hz
  clear hz
  simp only [rW] at h
  split at h
  ·rename_i z1 h1
   simp only [Option.some.injEq] at h
   subst h
   exact gP h1
  ·cases h
 | cell b o=>
  obtain rfl:=List.mem_singleton.1 hz
  exact lI h
 | two t u=>
  simp only [rW] at h
  split at h
  case h_2=>cases h
  rename_i y1 z1 h1 h2
  split at h
  case isFalse=>cases h
  rename_i e
  simp only [Option.some.injEq] at h
  subst h
  have e':=Atom.dN e
  subst e'
  simp only [jw,List.mem_cons,List.not_mem_nil,or_false] at hz
  rcases hz with rfl | rfl
  ·exact gP h1
  ·exact gP h2
theorem Fv {P:Program}{Φ:Nat->World->Value->Prop}:∀{l:List Step},(∀s,s ∈ l->cg P Φ s)->(∀s,s ∈ (bases l).1->aj Φ P s)∧∀s,s ∈ (bases l).2->cg P Φ s
 | [],_=>⟨fun s hs=>by simp [bases] at hs,fun s hs=>by simp [bases] at hs⟩
 | .base s :: l,h=>by
  obtain ⟨h1,h2⟩:=Fv (l:=l) (fun t ht=>h t (List.mem_cons_of_mem _ ht))
  refine ⟨fun t ht=>?_,h2⟩
  simp only [bases,List.mem_cons] at ht
  rcases ht with rfl | ht
  ·cases h _ (List.mem_cons_self ..) with
   | base h=>exact h
  ·exact h1 t ht
 | .loop d r o :: l,h=>⟨fun s hs=>by simp [bases] at hs,fun s hs=>h s (by simpa [bases] using hs)⟩
 | .rounds m :: l,h=>⟨fun s hs=>by simp [bases] at hs,fun s hs=>h s (by simpa [bases] using hs)⟩
 | .freed y p q :: l,h=>⟨fun s hs=>by simp [bases] at hs,fun s hs=>h s (by simpa [bases] using hs)⟩
 | .shut j :: l,h=>⟨fun s hs=>by simp [bases] at hs,fun s hs=>h s (by simpa [bases] using hs)⟩
 | .narrow j v i p s q q' :: l,h=>⟨fun s hs=>by simp [bases] at hs,fun s hs=>h s (by simpa [bases] using hs)⟩
 | .derive y sh fs p :: l,h=>⟨fun s hs=>by simp [bases] at hs,fun s hs=>h s (by simpa [bases] using hs)⟩
section
variable {P:Program}
theorem Fw {st:List It}:∀{vs:List (fT×Sh)}{ys:List Atom},varsOf st vs=some ys->ys.length=vs.length∧∀(i:Nat) (v:fT×Sh),vs[i]?=some v->∃y:Atom,ys[i]?=some y∧(∀z,z ∈ jw y v.1->z ∈ st)∧lw y v.2=true∧v.2.good=true
 | [],ys,h=>by simp [varsOf] at h;subst h;simp
 | v :: vs,ys,h=>by
  simp only [varsOf] at h
  split at h
  ·rename_i y ys' h1 h2
   split at h
   ·rename_i hf
    simp only [Option.some.injEq] at h
    subst h
    obtain ⟨h3,h4⟩:=Fw h2
    refine ⟨by simp [h3],fun i u hi=>?_⟩
    cases i with
    | zero=>
     simp at hi;subst hi
     simp only [Bool.and_eq_true] at hf
     exact ⟨y,rfl,aaf h1,hf.1,hf.2⟩
    | succ i=>simp at hi;simpa using h4 i u hi
   ·cases h
  ·cases h
theorem Fx {k:Nat}:∀{vs:List (fT×Sh)}{c i:Nat}{v:fT×Sh},vs[i]?=some v->(jx k c vs)[i]?=some (v.2.atom k (c+i))
 | v :: vs,c,0,u,h=>by simp at h;subst h;rfl
 | v :: vs,c,i+1,u,h=>by
  have:=Fx (k:=k) (c:=c+1) (i:=i) (vs:=vs) (v:=u) (by simpa using h)
  simpa [jx,show c+1+i=c+(i+1) by omega] using this
theorem Fy {k:Nat}:∀{vs:List (fT×Sh)}{c:Nat},(jx k c vs).length=vs.length
 | [],_=>rfl
 | _ :: vs,c=>by simp [jx,Fy]
theorem Fz {k:Nat}:∀{vs:List (fT×Sh)}{c:Nat}{x:It},x ∈ wK k c vs->∃(i:Nat) (v:fT×Sh),vs[i]?=some v∧x ∈ jw (v.2.atom k (c+i)) v.1
 | [],_,_,h=>by cases h
 | v :: vs,c,x,h=>by
  rcases List.mem_append.1 h with h | h
  ·exact ⟨0,v,rfl,h⟩
  ·obtain ⟨i,u,h1,h2⟩:=Fz h
   exact ⟨i+1,u,by simpa using h1,by rw [show c+(i+1)=c+1+i by omega];exact h2⟩
theorem FA {d:bJ}{st st0:List It}{ss:List Src} (h:rX d st st0 k ss=true) (hm:∀p,p<d.m->Φ p=Ψ p) (hs:jz Φ Ψ d.facts ss) (hK:cZ Φ X W n st a w):cZ Ψ X W n (pp d st0 k) a w:=by
 obtain ⟨ρ,hG,hx⟩:=hK
 simp only [rX,Bool.and_eq_true] at h
 obtain ⟨hk,h⟩:=h
 split at h
 case h_2=>cases h
 rename_i ys hys
 obtain ⟨hlen,hv⟩:=Fw hys
 have hstep:eo X W n k [] ρ w (ρ.put k (ys.map (Atom.ev ρ))) w:=mP k (bt w none)
 have hat:∀(i:Nat) (v:fT×Sh),d.vars[i]?=some v->∃y:Atom,ys[i]?=some y∧(∀z,z ∈ jw y v.1->z ∈ st)∧(v.2.atom k (0+i)).ev (ρ.put k (ys.map (Atom.ev ρ)))=y.ev ρ:=fun i v hi=>by
  obtain ⟨y,h1,h2,h3,h4⟩:=hv i v hi
  refine ⟨y,h1,h2,Sh.ev (wq h3 ρ) h4 ?_⟩
  simp [h1]
 have hev:∀i,((jx k 0 d.vars).getD i .un).ev (ρ.put k (ys.map (Atom.ev ρ)))=(ys.getD i .un).ev ρ:=fun i=>by
  rw [List.getD_eq_getElem?_getD,List.getD_eq_getElem?_getD]
  cases hi:d.vars[i]? with
  | none=>
   have hle:d.vars.length<=i:=List.getElem?_eq_none_iff.1 hi
   rw [List.getElem?_eq_none (by rw [Fy];exact hle),List.getElem?_eq_none (by rw [hlen];exact hle)]
   rfl
  | some v=>
   obtain ⟨y,h1,_,h3⟩:=hat i v hi
   rw [Fx hi,h1];exact h3
 have hsel:∀f:LC,(f.sel (jx k 0 d.vars)).ev (ρ.put k (ys.map (Atom.ev ρ)))=(f.sel ys).ev ρ:=fun f=>by
  cases f with
  | one i=>exact hev i
  | agg js=>
   simp only [LC.sel,C.ev,List.map_map]
   congr 2
   exact List.map_congr_left fun i _=>hev i
 have hown:∀m,Own X (ρ.put k (ys.map (Atom.ev ρ))) m->Own X ρ m:=fun m h=>h
 refine ⟨_,hstep.good a hG,fun x hx'=>?_⟩
 rcases List.mem_append.1 hx' with hx' | hx'
 ·rcases List.mem_append.1 hx' with hx' | hx'
  ·obtain ⟨i,v,hi,hxv⟩:=Fz hx'
   obtain ⟨y,_,h2,h3⟩:=hat i v hi
   have h2':∀z,z ∈ jw y v.1->z.holds Φ X ρ a w:=fun z hz=>hx _ (h2 z hz)
   revert h2' h3 hxv
   generalize v.2.atom k (0+i)=z
   have hsl:∀t,z.ev (ρ.put k (ys.map (Atom.ev ρ)))=y.ev ρ->(It.slot t (.c (.one y))).holds Φ X ρ a w->(It.slot t (.c (.one z))).holds Ψ X (ρ.put k (ys.map (Atom.ev ρ))) a w:=fun t h3 h=>by
    simp only [It.holds,SV.ev,C.ev] at h ⊢;rw [h3];exact h
   cases v.1 with
   | slot t=>
    intro hz h3 h
    obtain rfl:=List.mem_singleton.1 hz
    exact hsl t h3 (h _ (List.mem_singleton.2 rfl))
   | cell b o=>
    intro hz h3 h
    obtain rfl:=List.mem_singleton.1 hz
    obtain ⟨g,h4,h5,h6⟩:=h _ (List.mem_singleton.2 rfl)
    exact ⟨g,h4,by rw [h3];exact h5,h6⟩
   | two t u=>
    intro hz h3 h
    simp only [jw,List.mem_cons,List.not_mem_nil,or_false] at hz h
    rcases hz with rfl | rfl
    ·exact hsl t h3 (h _ (.inl rfl))
    ·exact hsl u h3 (h _ (.inr rfl))
  ·obtain ⟨f,hf,rfl⟩:=List.mem_map.1 hx'
   have hcl:∀x:C,x.sts = []->x.ev cV=x.ev ρ:=fun x hst=>by
    have hal:∀y,y ∈ x.cells->y.st=none:=fun y hy=>by
     cases hy':y.st with
     | none=>rfl
     | some j=>
      have:j ∈ x.sts:=List.mem_filterMap.2 ⟨y,hy,hy'⟩
      rw [hst] at this;cases this
    cases x with
    | one y=>exact oW (hal y (by simp [C.cells])) _ _
    | agg l=>
     simp only [C.ev]
     congr 2
     exact List.map_congr_left fun y hy=>oW (hal y hy) _ _
   have key:∀(fs:List (LC×LF)) (ss:List Src),jy st ys fs ss=true->jz Φ Ψ fs ss->f ∈ fs->(∀J p,f.2 = .cD J p->∀w1,Off (cf J X ρ) w w1->Ψ p w1 ((f.1.sel ys).ev ρ))∧∀j y,f.2 = .lo j->f.1.sel ys = .one y->∀g,blk (y.ev ρ)=some g->ρ.o j g:=by
    intro fs
    induction fs with
    | nil=>intro ss _ _ h;cases h
    | cons g gs ih=>
     intro ss h1 h2 hm'
     cases ss with
     | nil=>simp [jy] at h1
     | cons s ss=>
      cases s with
      | frm p=>
       simp only [jy,Bool.and_eq_true] at h1
       rcases List.mem_cons.1 hm' with rfl | hm'
       ·obtain ⟨h3,_⟩:=h1
        have h4:=h2.1
        refine ⟨fun J q e w1 hw=>?_,fun j y e ey g hg=>?_⟩
        ·rw [e] at h3 h4
         exact h4 _ _ (wN h3 hx w1 hw)
        ·rw [e,ey] at h3
         simp only [LF.Ft,Bool.or_eq_true] at h3
         rcases h3 with h3 | h3
         ·rw [Atom.dN h3] at hg;cases hg
         ·exact hx _ (pm h3) g hg
       ·exact ih ss h1.2 h2.2 hm'
      | closed x=>
       simp only [jy,Bool.and_eq_true] at h1
       rcases List.mem_cons.1 hm' with rfl | hm'
       ·obtain ⟨⟨⟨h3,h4⟩,h5⟩,_⟩:=h1
        have h6:=h2.1
        refine ⟨fun J q e w1 hw=>?_,fun j y e ey g hg=>?_⟩
        ·rw [e] at h6
         have ex:x=f.1.sel ys:=C.dN h3
         rw [<- ex,<- hcl x (by simpa using h4)]
         exact h6 w1
        ·rw [e] at h5;cases h5
       ·exact ih ss h1.2 h2.2 hm'
      | own p j=>
       simp only [jy,Bool.and_eq_true] at h1
       rcases List.mem_cons.1 hm' with rfl | hm'
       ·obtain ⟨h3,_⟩:=h1
        have h4:=h2.1
        refine ⟨fun J q e w1 hw=>?_,fun j y e ey g hg=>?_⟩
        ·rw [e] at h3 h4
         simp only [LF.Fu,Bool.and_eq_true] at h3
         obtain ⟨hJ,h5,h6⟩:=h3
         have hj:j ∈ J:=by simpa using hJ
         refine h4 w w1 _ (wE h5 hx w (Off.refl _ _)) hw.1 fun b hb=>?_
         have ho:ρ.o j b:=by
          revert h6 hb
          cases f.1.sel ys with
          | one z=>exact fun h6 hb=>hx _ (pm h6) b hb
          | agg l=>exact fun h6=>by cases h6
         refine hw.2 b (hG.loose j b ho).2 fun hX=>?_
         rcases hX with hX | ⟨i,hX⟩ | ⟨i,hi,hX⟩
         ·have h7:=hG.old b hX
          have h8:=(hG.loose j b ho).1
          omega
         ·exact hG.apart j i b hX ho
         ·exact hi (hG.one j i b ho hX▸hj)
        ·rw [e] at h3;cases h3
       ·exact ih ss h1.2 h2.2 hm'
   obtain ⟨k1,k2⟩:=key _ _ h hs hf
   cases e:f.2 with
   | cD J p=>
    refine rO fun w1 hw=>?_
    rw [hsel]
    exact k1 J p e w1 hw
   | lo j=>
    have hc:∀x:C,x=f.1.sel (jx k 0 d.vars)->(LF.item x (.lo j)).holds Ψ X (ρ.put k (ys.map (Atom.ev ρ))) a w:=fun x ex=>by
     cases x with
     | agg l=>intro g hg;cases hg
     | one y=>
      intro g hg
      have h1:y.ev (ρ.put k (ys.map (Atom.ev ρ)))=(f.1.sel ys).ev ρ:=by have:=hsel f.1;rw [<- ex] at this;exact this
      cases h2:f.1.sel ys with
      | one z=>rw [h1,h2] at hg;exact k2 j z e h2 g hg
      | agg l=>rw [h1,h2] at hg;cases hg
    exact hc _ rfl
 ·have hk':=List.all_eq_true.1 hk x hx'
  simp only [Bool.and_eq_true,Bool.not_eq_true'] at hk'
  have hin:=hx x (pm hk'.1)
  have hst:k ∉ x.sts:=fun h=>by have:=hk'.2;rw [List.contains_iff_mem.2 h] at this;cases this
  have hold:=frame hstep (a':=a) (fun _ _=>rfl) x hin (fun y hy=>by cases hy) hst
  cases x with
  | slot t v=>exact hold
  | cell b o y=>exact hold
  | fact y p=>
   have hp:p<d.m:=by simpa [kept,wL] using (List.mem_filter.1 hx').2
   intro w1 hw
   rw [<- hm p hp]
   exact hold w1 hw
  | held J y p=>
   have hp:p<d.m:=by
    have:=(List.mem_filter.1 hx').2
    simp only [wL,Bool.and_eq_true,decide_eq_true_eq] at this
    exact this.1
   intro w1 hw
   rw [<- hm p hp]
   exact hold w1 hw
  | lo j y=>exact hold
  | dV J y=>exact hold
theorem aag {d:bJ}{st:List It} (hm:∀p,p<d.m->Ψ p=Φ p) (hp:∀q,q ∈ d.post->∀w v,Ψ q.1 w v->Φ q.2 w v) (hK:cZ Ψ X W n st a w):cZ Φ X W n (rY d st) a w:=by
 obtain ⟨ρ,hG,hx⟩:=hK
 refine ⟨ρ,hG,fun x hx'=>?_⟩
 obtain ⟨y,hy,he⟩:=List.mem_filterMap.1 hx'
 have h:=hx y hy
 cases y with
 | slot t v=>simp only [Option.some.injEq] at he;subst he;exact h
 | cell b o v=>simp only [Option.some.injEq] at he;subst he;exact h
 | fact c p=>
  simp only at he
  split at he
  ·rename_i hlt
   simp only [Option.some.injEq] at he
   subst he
   intro w1 hw
   rw [<- hm p hlt];exact h w1 hw
  ·cases hf:d.post.find? (fun q=>q.1 == p) with
   | none=>simp [hf] at he
   | some q=>
    simp only [hf,Option.map_some,Option.some.injEq] at he
    subst he
    have h1:q.1=p:=by simpa using List.find?_some hf
    intro w1 hw
    exact hp q (List.mem_of_find?_eq_some hf) w1 _ (h1▸h w1 hw)
 | held J c p=>
  simp only at he
  split at he
  ·rename_i hlt
   simp only [Option.some.injEq] at he
   subst he
   intro w1 hw
   rw [<- hm p hlt];exact h w1 hw
  ·cases hf:d.post.find? (fun q=>q.1 == p) with
   | none=>simp [hf] at he
   | some q=>
    simp only [hf,Option.map_some,Option.some.injEq] at he
    subst he
    have h1:q.1=p:=by simpa using List.find?_some hf
    intro w1 hw
    exact hp q (List.mem_of_find?_eq_some hf) w1 _ (h1▸h w1 hw)
 | lo j v=>simp only [Option.some.injEq] at he;subst he;exact h
 | dV J v=>simp only [Option.some.injEq] at he;subst he;exact h
theorem aah {p:Nat->Prop} (h:∃m,p m):∃m,p m∧∀k,p k->m<=k:=by
 obtain ⟨m,hm⟩:=h
 induction m using Nat.strongRecOn with
 | _ m ih=>
  by_cases hk:∃k,k<m∧p k
  ·obtain ⟨k,h1,h2⟩:=hk
   exact ih k h1 h2
  ·exact ⟨m,hm,fun k hp=>Nat.le_of_not_lt fun hlt=>hk ⟨k,hlt,hp⟩⟩
theorem aai {c:Code}{J:Type}{Ψ:J->Nat->World->Value->Prop}{hd:List It} (μ:J->Nat)
  (round:∀j a w,cZ (Ψ j) X W n hd a w->c.wp P (Exit.then (fun a' w'=>∃j',cZ (Ψ j') X W n hd a' w'∧μ j'<μ j) Q) a w){j0:J} (h0:cZ (Ψ j0) X W n hd a w):(Code.loop c).wp P Q a w:=by
 have hex:∀a w,(∃j,cZ (Ψ j) X W n hd a w)->∃m,(∃j,cZ (Ψ j) X W n hd a w∧μ j=m)∧∀k,(∃j,cZ (Ψ j) X W n hd a w∧μ j=k)->m<=k:=fun a w ⟨j,h⟩=>aah ⟨_,j,h,rfl⟩
 refine wp_loop (fun a w=>∃j,cZ (Ψ j) X W n hd a w) (fun a w=>open Classical in if h:∃j,cZ (Ψ j) X W n hd a w then Classical.choose (hex a w h) else 0) ⟨j0,h0⟩ fun a w hI=>?_
 obtain ⟨⟨j,hj,hμ⟩,_⟩:=Classical.choose_spec (hex a w hI)
 refine wp_mono (round j a w hj) fun e a' w' hq=>?_
 cases e with
 | normal=>
  obtain ⟨j',h2,h3⟩:=hq
  refine ⟨⟨j',h2⟩,?_⟩
  rw [dif_pos hI,dif_pos (⟨j',h2⟩:∃j,cZ (Ψ j) X W n hd a' w')]
  have h4:=(Classical.choose_spec (hex a' w' ⟨j',h2⟩)).2 _ ⟨j',h2,rfl⟩
  omega
 | exit id=>exact hq
 | goto l=>exact hq
 | ret=>exact hq
 | panic c=>exact hq
 | outgrown=>exact hq
theorem pz {Φ:Nat->World->Value->Prop}:∀{ss:List Step}{st st':List It}{ss':List Step},ga st ss=some (st',ss')->(∀s,s ∈ ss->cg P Φ s)->(∀s,s ∈ ss'->cg P Φ s)∧∀a w,cZ Φ X W n st a w->cZ Φ X W n st' a w
 | .derive y sh fs p :: l,st,st',ss',h,hs=>by
  simp only [ga] at h
  split at h
  case isFalse=>cases h
  rename_i hc
  simp only [Bool.and_eq_true] at hc
  obtain ⟨h1,h2⟩:=pz (ss:=l) h (fun s hs'=>hs s (List.mem_cons_of_mem _ hs'))
  refine ⟨h1,fun a w hK=>h2 a w ?_⟩
  obtain ⟨ρ,hG,hx⟩:=hK
  refine ⟨ρ,hG,fun x hx'=>?_⟩
  rcases List.mem_cons.1 hx' with rfl | hx'
  ·cases hs _ (List.mem_cons_self ..) with
   | derive h=>
    refine rO (h (cf _ X ρ) w (y.ev ρ) ⟨rM hc.1 ρ,fun q hq w1 hw=>?_⟩)
    rw [<- mL]
    exact wN (List.all_eq_true.1 hc.2 q hq) hx w1 hw
  ·exact hx x hx'
 | .freed y p q :: l,st,st',ss',h,hs=>by
  simp only [ga] at h
  split at h
  case isFalse=>cases h
  rename_i hc
  obtain ⟨h1,h2⟩:=pz (ss:=l) h (fun s hs'=>hs s (List.mem_cons_of_mem _ hs'))
  refine ⟨h1,fun a w hK=>h2 a w ?_⟩
  obtain ⟨ρ,hG,hx⟩:=hK
  refine ⟨ρ,hG,fun x hx'=>?_⟩
  rcases List.mem_cons.1 hx' with rfl | hx'
  ·cases hs _ (List.mem_cons_self ..) with
   | freed h=>exact fun w1 _=>h w w1 _ (wE hc hx w (Off.refl _ _))
  ·exact hx x hx'
 | .shut j :: l,st,st',ss',h,hs=>by
  simp only [ga] at h
  obtain ⟨h1,h2⟩:=pz (ss:=l) h (fun s hs'=>hs s (List.mem_cons_of_mem _ hs'))
  refine ⟨h1,fun a w hK=>h2 a w ?_⟩
  obtain ⟨ρ,hG,hx⟩:=hK
  have own:∀(J:List Nat) m,cf (J.filter fun k=>k != j) X { ρ with o:=fun k m=>k≠j∧ρ.o k m } m->cf J X ρ m:=fun J m h=>by
   rcases h with h | h | ⟨k,h1,hk,h2⟩
   ·exact .inl h
   ·exact .inr (.inl h)
   ·exact .inr (.inr ⟨k,fun hm=>h1 (List.mem_filter.2 ⟨hm,by simpa using hk⟩),h2⟩)
  refine ⟨{ ρ with o:=fun k m=>k≠j∧ρ.o k m },⟨hG.defers,hG.size,hG.grown,hG.inj,hG.lo,hG.old,fun k m h=>hG.loose _ m h.2,fun q k m h1 h2=>hG.apart _ k m h1 h2.2,fun p q m h1 h2=>hG.one _ _ m h1.2 h2.2,⟨hG.far.1,fun k m hk h=>hG.far.2 _ m hk h.2⟩⟩,fun x hx'=>?_⟩
  obtain ⟨y,hy,hyx⟩:=List.mem_filterMap.1 hx'
  have h:=hx y hy
  cases y with
  | slot t v=>
   obtain rfl:=Option.some.inj hyx
   simp only [It.holds] at h ⊢;rw [SV.cY];exact h
  | cell k o y=>
   obtain rfl:=Option.some.inj hyx
   obtain ⟨g,h1,h2,h3⟩:=h
   exact ⟨g,h1,by rw [cY];exact h2,h3⟩
  | fact y p=>
   obtain rfl:=Option.some.inj hyx
   intro w1 hw
   rw [C.cY]
   exact h w1 (hw.wide fun m hm=>own [] m hm)
  | held J y p=>
   obtain rfl:=Option.some.inj hyx
   intro w1 hw
   rw [C.cY]
   exact h w1 (hw.wide (own J))
  | lo k y=>
   simp only [It.cl] at hyx
   split at hyx
   ·cases hyx
   ·obtain rfl:=Option.some.inj hyx
    intro g hg
    rw [cY] at hg
    exact ⟨‹_›,h g hg⟩
  | dV J y=>
   simp only [It.cl] at hyx
   split at hyx
   ·cases hyx
   ·rename_i hj
    obtain rfl:=Option.some.inj hyx
    intro g hg
    rw [cY] at hg
    obtain ⟨k,hk,h2⟩:=h g hg
    exact ⟨k,hk,fun e=>hj (by rw [<- e];simpa using hk),h2⟩
 | .narrow j v i p s q q' :: l,st,st',ss',h,hs=>by
  simp only [ga] at h
  split at h
  case isFalse=>cases h
  rename_i hc
  obtain ⟨h1,h2⟩:=pz (ss:=l) h (fun s hs'=>hs s (List.mem_cons_of_mem _ hs'))
  refine ⟨h1,fun a w hK=>h2 a w ?_⟩
  obtain ⟨ρ,hG,hx⟩:=hK
  have own:∀(J:List Nat) m,cf J X { ρ with o:=fun k m=>(k=j->blk (v.ev ρ)=some m)∧ρ.o k m } m->cf J X ρ m:=fun J m h=>by
   rcases h with h | h | ⟨k,h1,hk,h2⟩
   ·exact .inl h
   ·exact .inr (.inl h)
   ·exact .inr (.inr ⟨k,h1,h2⟩)
  refine ⟨{ ρ with o:=fun k m=>(k=j->blk (v.ev ρ)=some m)∧ρ.o k m },⟨hG.defers,hG.size,hG.grown,hG.inj,hG.lo,hG.old,fun k m h=>hG.loose _ m h.2,fun q k m h1 h2=>hG.apart _ k m h1 h2.2,fun p q m h1 h2=>hG.one _ _ m h1.2 h2.2,⟨hG.far.1,fun k m hk h=>hG.far.2 _ m hk h.2⟩⟩,fun x hx'=>?_⟩
  rcases List.mem_cons.1 hx' with rfl | hx'
  ·cases hs _ (List.mem_cons_self ..) with
   | narrow h=>
    intro w1 hw
    rw [C.cY]
    refine h (cf [j] X ρ) w (v.ev ρ) (i.ev ρ) (p.ev ρ) (s.ev ρ) (wN hc hx) w1 (hw.wide fun m hm=>?_)
    rcases hm with h | h | ⟨k,-,h2,h3⟩
    ·exact .inl (.inl h)
    ·exact .inl (.inr (.inl h))
    ·by_cases hk:k=j
     ·exact .inr (h2 hk)
     ·exact .inl (.inr (.inr ⟨k,by simpa using hk,h3⟩))
  obtain ⟨y,hy,hyx⟩:=List.mem_filterMap.1 hx'
  have h:=hx y hy
  cases y with
  | slot t v=>
   obtain rfl:=Option.some.inj hyx
   simp only [It.holds] at h ⊢;rw [SV.cY];exact h
  | cell k o y=>
   obtain rfl:=Option.some.inj hyx
   obtain ⟨g,h1,h2,h3⟩:=h
   exact ⟨g,h1,by rw [cY];exact h2,h3⟩
  | fact y p=>
   obtain rfl:=Option.some.inj hyx
   intro w1 hw
   rw [C.cY]
   exact h w1 (hw.wide fun m hm=>own [] m hm)
  | held J y p=>
   obtain rfl:=Option.some.inj hyx
   intro w1 hw
   rw [C.cY]
   exact h w1 (hw.wide (own J))
  | lo k y=>
   simp only [It.nr] at hyx
   split at hyx
   ·cases hyx
   ·rename_i hne
    obtain rfl:=Option.some.inj hyx
    intro g hg
    rw [cY] at hg
    refine ⟨fun hk=>?_,h g hg⟩
    simp only [hk,decide_true,Bool.true_and,Bool.not_eq_true',Bool.not_eq_false] at hne
    rw [<- Atom.dN hne];exact hg
  | dV J y=>
   simp only [It.nr] at hyx
   split at hyx
   ·cases hyx
   ·rename_i hj
    obtain rfl:=Option.some.inj hyx
    intro g hg
    rw [cY] at hg
    obtain ⟨k,hk,h2⟩:=h g hg
    exact ⟨k,hk,fun e=>absurd hk (by rw [e];simpa using hj),h2⟩
 | [],st,st',ss',h,hs=>by simp only [ga,Option.some.injEq,Prod.mk.injEq] at h;obtain ⟨rfl,rfl⟩:=h;exact ⟨hs,fun _ _ h=>h⟩
 | .base s :: l,st,st',ss',h,hs=>by simp only [ga,Option.some.injEq,Prod.mk.injEq] at h;obtain ⟨rfl,rfl⟩:=h;exact ⟨hs,fun _ _ h=>h⟩
 | .loop d r o :: l,st,st',ss',h,hs=>by simp only [ga,Option.some.injEq,Prod.mk.injEq] at h;obtain ⟨rfl,rfl⟩:=h;exact ⟨hs,fun _ _ h=>h⟩
 | .rounds m :: l,st,st',ss',h,hs=>by simp only [ga,Option.some.injEq,Prod.mk.injEq] at h;obtain ⟨rfl,rfl⟩:=h;exact ⟨hs,fun _ _ h=>h⟩
theorem aaj {c:Code} (ih:∀(st:List It) (k:Nat) (ss:List Step) (x:Ex) (st':List It) (k':Nat) (r:List Step),dw P n c st k ss=some (x,st',k',r)->(∀s,s ∈ ss->cg P Φ s)->
  (∀s,s ∈ r->cg P Φ s)∧∀Q:Exit->Act->World->Prop,(∀a w,cZ Φ X W n st' a w->Q x.to a w)->∀a w,cZ Φ X W n st a w->c.wp P Q a w) :
  ∀(m:Nat) (st:List It) (k:Nat) (ss:List Step) (x:Ex) (st':List It) (k':Nat) (r:List Step),rZ (fun st k ss=>dw P n c st k ss) m st k ss=some (x,st',k',r)->(∀s,s ∈ ss->cg P Φ s)->
  (∀s,s ∈ r->cg P Φ s)∧∀Q:Exit->Act->World->Prop,(∀a w,cZ Φ X W n st' a w->Q x.to a w)->∀a w,cZ Φ X W n st a w->Code.rounds P c Q m a w:=by
 intro m
 induction m with
 | zero=>intro st k ss x st' k' r h;cases h
 | succ m im=>
  intro st k ss x st' k' r h hs
  simp only [rZ] at h
  split at h
  ·rename_i st1 k1 ss1 h1
   obtain ⟨hs1,hw1⟩:=ih _ _ _ _ _ _ _ h1 hs
   obtain ⟨hs2,hw2⟩:=im _ _ _ _ _ _ _ h hs1
   exact ⟨hs2,fun Q hQ a w hK=>hw1 _ (fun a' w' hK'=>hw2 Q hQ a' w' hK') a w hK⟩
  ·rename_i hne
   obtain ⟨hs1,hw1⟩:=ih _ _ _ _ _ _ _ h hs
   refine ⟨hs1,fun Q hQ a w hK=>hw1 _ (fun a' w' hK'=>?_) a w hK⟩
   have:=hQ a' w' hK'
   cases x with
   | normal=>exact absurd h (hne st' k' r)
   | exit id=>exact this
   | ret=>exact this
theorem FC:∀(c:Code) (st:List It) (k:Nat) (ss:List Step) (x:Ex) (st':List It) (k':Nat) (r:List Step),dw P n c st k ss=some (x,st',k',r)->∀Φ:Nat->World->Value->Prop,(∀s,s ∈ ss->cg P Φ s)->
  (∀s,s ∈ r->cg P Φ s)∧∀Q:Exit->Act->World->Prop,(∀a w,cZ Φ X W n st' a w->Q x.to a w)->∀a w,cZ Φ X W n st a w->c.wp P Q a w:=by
 intro c
 induction c with
 | skip=>
  intro st k ss x st' k' r h Φ hs
  simp only [dw,Option.some.injEq,Prod.mk.injEq] at h
  obtain ⟨rfl,rfl,rfl,rfl⟩:=h
  exact ⟨hs,fun Q hQ a w hK=>wp_skip (hQ a w hK)⟩
 | label l=>
  intro st k ss x st' k' r h Φ hs
  simp only [dw,Option.some.injEq,Prod.mk.injEq] at h
  obtain ⟨rfl,rfl,rfl,rfl⟩:=h
  exact ⟨hs,fun Q hQ a w hK=>wp_label (hQ a w hK)⟩
 | region id ops draw=>
  intro st k ss x st' k' r h Φ hs
  simp only [dw] at h
  split at h
  case isFalse=>cases h
  rename_i hm
  split at h
  case h_2=>cases h
  rename_i stD ssD hD
  obtain ⟨hs,hKD⟩:=pz (X:=X) (W:=W) (n:=n) hD hs
  split at h
  case h_2=>cases h
  rename_i st1 r1 hr
  simp only [Option.some.injEq,Prod.mk.injEq] at h
  obtain ⟨rfl,rfl,rfl,rfl⟩:=h
  have hm':draw=true->P.follows .mixedOrders=true:=fun hd=>by rw [hd] at hm;simpa using hm
  obtain ⟨hb1,hb2⟩:=Fv hs
  refine ⟨fun s hs'=>?_,fun Q hQ a w hK=>aaa hr hm' hb1 hQ (hKD a w hK)⟩
  rcases List.mem_append.1 hs' with hs' | hs'
  ·obtain ⟨t,ht,rfl⟩:=List.mem_map.1 hs'
   refine .base ?_
   unfold pn at hr
   split at hr
   case h_2=>cases hr
   rename_i es r' he
   split at hr
   case isFalse=>cases hr
   simp only [Option.some.injEq,Prod.mk.injEq] at hr
   obtain ⟨_,rfl⟩:=hr
   exact (wz (X:=X) (Q:=fun _ _ _=>True) (W:=W) he (fun j o hj=>by simpa using hj) hb1).2.2 t ht
  ·exact hb2 s hs'
 | seq a b iha ihb=>
  intro st k ss x st' k' r h Φ hs
  simp only [dw] at h
  split at h
  ·rename_i st1 k1 ss1 h1
   obtain ⟨hs1,hw1⟩:=iha _ _ _ _ _ _ _ h1 Φ hs
   obtain ⟨hs2,hw2⟩:=ihb _ _ _ _ _ _ _ h Φ hs1
   exact ⟨hs2,fun Q hQ a' w hK=>wp_seq (hw1 _ (fun a'' w'' hK'=>hw2 Q hQ a'' w'' hK') a' w hK)⟩
  ·rename_i hne
   obtain ⟨hs1,hw1⟩:=iha _ _ _ _ _ _ _ h Φ hs
   refine ⟨hs1,fun Q hQ a' w hK=>wp_seq (hw1 _ (fun a'' w'' hK'=>?_) a' w hK)⟩
   have:=hQ a'' w'' hK'
   cases x with
   | normal=>exact absurd h (hne st' k' r)
   | exit id=>exact this
   | ret=>exact this
 | cond c t e iht ihe=>
  intro st k ss x st' k' r h Φ hs
  simp only [dw] at h
  split at h
  case h_2=>cases h
  rename_i b l hv
  have hev:∀a w,cZ Φ X W n st a w->a.eval c = .bool b:=fun a w ⟨ρ,_,hx⟩=>val_ok hv (fun y hy=>hx y (aab hv y hy))
  cases b with
  | true=>
   obtain ⟨hs1,hw1⟩:=iht _ _ _ _ _ _ _ (by simpa using h) Φ hs
   exact ⟨hs1,fun Q hQ a w hK=>wp_cond_true (hev a w hK) (hw1 Q hQ a w hK)⟩
  | false=>
   obtain ⟨hs1,hw1⟩:=ihe _ _ _ _ _ _ _ (by simpa using h) Φ hs
   exact ⟨hs1,fun Q hQ a w hK=>wp_cond_false (hev a w hK) (hw1 Q hQ a w hK)⟩
 | block id c ih=>
  intro st k ss x st' k' r h Φ hs
  simp only [dw] at h
  split at h
  ·rename_i j st1 k1 ss1 h1
   simp only [Option.some.injEq,Prod.mk.injEq] at h
   obtain ⟨rfl,rfl,rfl,rfl⟩:=h
   obtain ⟨hs1,hw1⟩:=ih _ _ _ _ _ _ _ h1 Φ hs
   refine ⟨hs1,fun Q hQ a w hK=>wp_block (hw1 _ (fun a' w' hK'=>?_) a w hK)⟩
   have:=hQ a' w' hK'
   simp only [Ex.to,Exit.inBlock]
   split at this <;> rename_i hj
   ·rw [if_pos hj];exact this
   ·rw [if_neg hj];exact this
  ·rename_i hne
   obtain ⟨hs1,hw1⟩:=ih _ _ _ _ _ _ _ h Φ hs
   refine ⟨hs1,fun Q hQ a w hK=>wp_block (hw1 _ (fun a' w' hK'=>?_) a w hK)⟩
   have:=hQ a' w' hK'
   cases x with
   | normal=>exact this
   | exit j=>exact absurd h (hne j st' k' r)
   | ret=>exact this
 | exit id=>
  intro st k ss x st' k' r h Φ hs
  simp only [dw,Option.some.injEq,Prod.mk.injEq] at h
  obtain ⟨rfl,rfl,rfl,rfl⟩:=h
  exact ⟨hs,fun Q hQ a w hK=>wp_exit (hQ a w hK)⟩
 | ret=>
  intro st k ss x st' k' r h Φ hs
  simp only [dw,Option.some.injEq,Prod.mk.injEq] at h
  obtain ⟨rfl,rfl,rfl,rfl⟩:=h
  exact ⟨hs,fun Q hQ a w hK=>wp_ret (hQ a w hK)⟩
 | loop c ih=>
  intro st k ss x st' k' r h Φ hs
  simp only [dw] at h
  split at h
  case h_3=>cases h
  case h_2=>
   rename_i m rest
   obtain ⟨h1,h2⟩:=aaj (X:=X) (W:=W) (Φ:=Φ) (fun st k ss x st' k' r h hs=>ih st k ss x st' k' r h Φ hs) m _ _ _ _ _ _ _ h (fun s hs'=>hs s (List.mem_cons_of_mem _ hs'))
   exact ⟨h1,fun Q hQ a w hK=>wp_loop_rounds m (h2 Q hQ a w hK)⟩
  rename_i d rounds out rest
  split at h
  case isFalse=>cases h
  rename_i hc
  simp only [Bool.and_eq_true] at hc
  obtain ⟨hc1,hc2⟩:=hc
  have hrest:∀s,s ∈ rest->cg P Φ s:=fun s hs'=>hs s (List.mem_cons_of_mem _ hs')
  cases hs _ (List.mem_cons_self ..) with
  | loop J Ψ μ go j0 pick nx hΨ h0 hp hμ hn hss ho hpost=>
   have key:∀(y:Ex) (jA:List It) (k3:Nat) (r3:List Step),y≠.normal->dw P n c (pp d st k) (k+1) out=some (y,jA,k3,r3)->∀Q:Exit->Act->World->Prop,(∀a w,cZ Φ X W n (rY d jA) a w->Q y.to a w)->∀a w,cZ Φ X W n st a w->(Code.loop c).wp P Q a w:=by
    intro y jA k3 r3 hy hrun Q hQ a w hK
    refine aai (Ψ:=Ψ) (hd:=pp d st k) μ (fun j a w hKj=>?_) (j0:=j0) (FA hc1 (fun p hp'=>(hΨ j0 p hp').symm) h0 hK)
    by_cases hg:go j
    ·have hlt:=hp j hg
     have hr':rounds[pick j]?=some rounds[pick j]:=List.getElem?_eq_getElem hlt
     have hall:=List.all_eq_true.1 hc2 _ (List.getElem_mem hlt)
     split at hall
     case h_2=>cases hall
     rename_i st2 k2 r2 aak
     refine (ih _ _ _ _ _ _ _ aak (Ψ j) (hss j hg _ hr')).2 _ (fun a' w' hK2=>?_) a w hKj
     exact ⟨nx j,FA hall (fun p hp'=>by rw [hΨ j p hp',hΨ (nx j) p hp']) (hn j hg _ hr') hK2,hμ j hg⟩
    ·refine (ih _ _ _ _ _ _ _ hrun (Ψ j) (ho j hg)).2 _ (fun a' w' hK3=>?_) a w hKj
     have:=hQ a' w' (aag (fun p hp'=>hΨ j p hp') (hpost j hg) hK3)
     cases y with
     | normal=>exact absurd rfl hy
     | exit id=>exact this
     | ret=>exact this
   split at h
   ·rename_i j jA k3 r3 hrun
    simp only [Option.some.injEq,Prod.mk.injEq] at h
    obtain ⟨rfl,rfl,rfl,rfl⟩:=h
    exact ⟨hrest,key _ _ _ _ (by simp) hrun⟩
   ·rename_i jA k3 r3 hrun
    simp only [Option.some.injEq,Prod.mk.injEq] at h
    obtain ⟨rfl,rfl,rfl,rfl⟩:=h
    exact ⟨hrest,key _ _ _ _ (by simp) hrun⟩
   ·cases h
 | rangeFunc f ps a b _ _=>intro st k ss x st' k' r h;simp [dw] at h
 | scope c _=>intro st k ss x st' k' r h;simp [dw] at h
 | goto l=>intro st k ss x st' k' r h;simp [dw] at h
 | refuse s=>intro st k ss x st' k' r h;simp [dw] at h
end
def FD (P:Program) (fn:Func) (c:Code) (ins:List Out) (ss:List Step) (res:List Out) (bz:Bool):Bool:=
 decide (ins.length<=fn.ntmps) && ins.all (fun o=>o.sh.good) &&
 match dw P fn.ntmps c (start ins) 1 ss with
 | some (.exit _,_,_,_)=>false
 | some (_,st,_,_)=>(match fn.results.toList.mapM (lG P st) with
  | some cs=>lH st cs res && (bz == !(cs.length == 1))
  | none=>false)
 | none=>false
def FF (P:Program) (fn:Func) (ins:List Out) (ss:List Step) (res:List Out) (bz:Bool):Bool:=match fn.body with
 | some c=>FD P fn c ins ss res bz
 | none=>false
section
variable {P:Program}
theorem aQ {fn:Func} (ins res:List Out) (ss:List Step) (hf:P.funcs[s.f]?=some fn) (hrun:FF P fn ins ss res s.bz=true) (hs:∀t,t ∈ ss->cg P Φ t)
  (hin:∀(X:Nat->Prop) (w:World) (vs:List Value),(∀k,X k->k<w.heap.size)->cQ Φ X w s.args vs->ch Φ X w ins vs)
  (hout:∀(X:Nat->Prop) (w:World) (us:List Value),ch Φ X w res us->ch Φ X w s.outs us):oV Φ P s:=by
 intro X W vs hX hargs
 unfold FF at hrun
 split at hrun
 case h_2=>cases hrun
 rename_i c hb
 simp only [FD,Bool.and_eq_true,decide_eq_true_eq] at hrun
 obtain ⟨⟨hle,hgood⟩,hrun⟩:=hrun
 have hins:=hin X W vs hX hargs
 have hlen:=hins.length
 obtain ⟨e1,e2⟩:=gu (ρ:=cV) (k:=0) (l:=vs.flatMap cellsOf) (c:=0) hins hgood (fun j u hj=>by rw [Nat.zero_add];exact hj)
 refine calls_of_wp hf hb ?_
 have hstart:cZ Φ X { W with drawn:=0 } fn.ntmps (start ins) { tmps:=vs.toArray ++ Array.replicate (fn.ntmps-vs.toArray.size) undef,defers:=[] } W:=by
  refine ⟨cV.put 0 (vs.flatMap cellsOf),⟨rfl,by simp;omega,EO (bt _ _),fun j k g h=>by simp [Env.put,cV] at h,fun k g h=>by simp [Env.put,cV] at h,hX,fun j k h=>h.elim,fun i j k h=>by simp [Env.put,cV] at h,fun i j k h=>h.elim,⟨Nat.zero_le _,fun j k _ h=>h.elim⟩⟩,fun x hx=>?_⟩
  rcases List.mem_append.1 hx with hx | hx
  ·obtain ⟨m,y,rfl,hm⟩:=wI 0 hx
   simp only [Nat.zero_add,It.holds,SV.ev]
   have:vs[m]?=some (y.ev (cV.put 0 (vs.flatMap cellsOf))):=by have h:=congrArg (fun l:List Value=>l[m]?) e1;simp only [List.getElem?_map,hm,Option.map_some] at h;exact h.symm
   have hlt:=(List.getElem?_eq_some_iff.1 this).1
   rw [Array.getElem?_append_left (by simpa using hlt)]
   simpa using this
  ·obtain ⟨y,p,rfl,hy⟩:=e2 x hx
   exact fun w1 hw=>hy w1 (hw.1 |> fun h1=>⟨h1,fun k hk hn=>hw.2 k hk (fun ho=>by
    rcases ho with ho | ⟨j,ho⟩ | ⟨j,-,ho⟩
    ·exact hn ho
    ·simp [Env.put,cV] at ho
    ·exact ho.elim)⟩)
 split at hrun
 case h_1=>cases hrun
 case h_3=>cases hrun
 rename_i x st k' r hne hr
 obtain ⟨_,hw⟩:=FC (X:=X) (W:={ W with drawn:=0 }) c _ _ _ _ _ _ _ hr Φ hs
 refine hw _ (fun a w hK=>?_) _ _ hstart
 split at hrun
 case h_2=>cases hrun
 rename_i cs hcs
 simp only [Bool.and_eq_true,beq_iff_eq] at hrun
 obtain ⟨ρ,hG,hx⟩:=hK
 have hres:=wG (P:=P) hx hcs
 have hpost:a.defers = []∧∃v,(results fn a.tmps).run P w = .ok v w∧(W.grownBy w none∧∃us:List Value,Ending.returned v = .returned (if s.bz then .tuple us.toArray else us.headD undef)∧ch Φ X w s.outs us):=by
  refine ⟨hG.defers,(if s.bz then .tuple (cs.map (C.ev ρ)).toArray else (cs.map (C.ev ρ)).headD undef),?_,EN hG.grown,_,rfl,hout X w _ (wH hx hrun.1)⟩
  have hv:(if h:(cs.map (C.ev ρ)).toArray.size=1 then (cs.map (C.ev ρ)).toArray[0] else Value.tuple (cs.map (C.ev ρ)).toArray)=(if s.bz then .tuple (cs.map (C.ev ρ)).toArray else (cs.map (C.ev ρ)).headD undef):=by
   rw [hrun.2]
   match cs with
   | []=>rfl
   | [x]=>rfl
   | x :: y :: l=>simp
  rw [Fs,<- hv]
  simp [Array.mapM_eq_mapM_toList,hres]
 cases x with
 | normal=>exact hpost
 | ret=>exact hpost
 | exit id=>exact absurd rfl (hne id)
theorem aD:∀t,t ∈ ([]:List Step)->cg P Φ t:=fun _ h=>by cases h
theorem aal  (h:aj Φ P s) (hl:∀t,t ∈ l->cg P Φ t):∀t,t ∈ Step.base s :: l->cg P Φ t:=fun t ht=>by
 rcases List.mem_cons.1 ht with rfl | ht
 ·exact .base h
 ·exact hl t ht
theorem ba {fs:List (Nat×Nat×Nat)} (h:∀(X:Nat->Prop) (w:World) (v:Value),(Arg.parts sh fs).ok Φ X w v->(Arg.fact p).ok Φ X w v) (hl:∀t,t ∈ l->cg P Φ t):∀t,t ∈ Step.derive y sh fs p :: l->cg P Φ t:=fun t ht=>by
 rcases List.mem_cons.1 ht with rfl | ht
 ·exact .derive h
 ·exact hl t ht
theorem nL  (hl:∀t,t ∈ l->cg P Φ t):∀t,t ∈ Step.shut j :: l->cg P Φ t:=fun t ht=>by
 rcases List.mem_cons.1 ht with rfl | ht
 ·exact .shut
 ·exact hl t ht
theorem Li {v i p s:Atom}{q q':Nat} (h:∀(X:Nat->Prop) (w:World) (v i p s:Value),(∀w1,Off X w w1->Φ q w1 (.agg #[v,i,p,s]))->∀w1,Off (fun k=>X k∨blk v=some k) w w1->Φ q' w1 s) (hl:∀t,t ∈ l->cg P Φ t):∀t,t ∈ Step.narrow j v i p s q q' :: l->cg P Φ t:=fun t ht=>by
 rcases List.mem_cons.1 ht with rfl | ht
 ·exact .narrow h
 ·exact hl t ht
theorem lR {q:Nat} (h:∀(w w':World) (v:Value),Φ p w v->Φ q w' v) (hl:∀t,t ∈ l->cg P Φ t):∀t,t ∈ Step.freed y p q :: l->cg P Φ t:=fun t ht=>by
 rcases List.mem_cons.1 ht with rfl | ht
 ·exact .freed h
 ·exact hl t ht
theorem iU {m:Nat} (hl:∀t,t ∈ l->cg P Φ t):∀t,t ∈ Step.rounds m :: l->cg P Φ t:=fun t ht=>by
 rcases List.mem_cons.1 ht with rfl | ht
 ·exact .rounds
 ·exact hl t ht
theorem cm {s:Step} (h:cg P Φ s) (hl:∀t,t ∈ l->cg P Φ t):∀t,t ∈ s :: l->cg P Φ t:=fun t ht=>by
 rcases List.mem_cons.1 ht with rfl | ht
 ·exact h
 ·exact hl t ht
theorem counted {d:bJ}{rounds:List (List Step×List Src)}{out:List Step} (n:Nat) (Ψ:Nat->Nat->World->Value->Prop) (pk:Nat->Nat) (hΨ:∀j p,p<d.m->Ψ j p=Φ p) (h0:jz Φ (Ψ 0) d.facts d.init)
  (hr:∀j,j<n->∃r,rounds[pk j]?=some r∧jz (Ψ j) (Ψ (j+1)) d.facts r.2∧∀t,t ∈ r.1->cg P (Ψ j) t) (ho:∀t,t ∈ out->cg P (Ψ n) t) (hpost:∀q,q ∈ d.post->∀w v,Ψ n q.1 w v->Φ q.2 w v):cg P Φ (.loop d rounds out):=by
 refine .loop {j:Nat // j<=n} (fun j=>Ψ j.1) (fun j=>n-j.1) (fun j=>j.1<n) ⟨0,Nat.zero_le _⟩ (fun j=>pk j.1) (fun j=>if h:j.1<n then ⟨j.1+1,h⟩ else j) (fun j p hp=>hΨ j.1 p hp) h0 (fun j hj=>?_) (fun j hj=>?_) (fun j hj r hr'=>?_) (fun j hj r hr'=>?_) (fun j hj=>?_) (fun j hj=>?_)
 ·obtain ⟨r,h1,_⟩:=hr j.1 hj
  exact (List.getElem?_eq_some_iff.1 h1).1
 ·rw [dif_pos hj];show n-(j.1+1)<n-j.1;omega
 ·obtain ⟨r',h1,h2,_⟩:=hr j.1 hj
  obtain rfl:=Option.some.inj (h1.symm.trans hr')
  rw [dif_pos hj];exact h2
 ·obtain ⟨r',h1,_,h3⟩:=hr j.1 hj
  obtain rfl:=Option.some.inj (h1.symm.trans hr')
  exact h3
 ·have e:j.1=n:=by have:=j.2;omega
  rw [e];exact ho
 ·have e:j.1=n:=by have:=j.2;omega
  rw [e];exact hpost
end
def aK (T:TypeId):Op->Option (List Operand)
 | .call ⟨.builtin .len,args,ts⟩=>if ts = #[T] then some args.toList else none
 | _=>none
def FG:BinOp->BinOp->Bool
 | .lss,.lss=>true | .leq,.leq=>true | .gtr,.gtr=>true | .geq,.geq=>true | .eql,.eql=>true | .neq,.neq=>true | .add,.add=>true | .sub,.sub=>true | .mul,.mul=>true | _,_=>false
theorem aam {x y:BinOp} (h:FG x y=true):x=y:=by cases x <;> cases y <;> first | rfl | cases h
def au (op:BinOp):Op->Option (List Operand)
 | .binOp o _ x y _=>if FG o op then some [x,y] else none
 | _=>none
def aN (T:TypeId):Op->Option (List Operand)
 | .indexAddr t x i=>if t=T then some [x,i] else none
 | _=>none
def aO (T:TypeId):Op->Option (List Operand)
 | .load t x=>if t=T then some [x] else none
 | _=>none
def Arr (sz:Nat) (F:Nat->World->Value->Prop) (n:Nat) (w:World) (v:Value):Prop:=
 ∃p c,v = .slice p n c∧∀i,i<n->∃b off,p=some ⟨b,off,none⟩∧∃l:List Value,l.length=sz∧(∀(j:Nat) (u:Value),l[j]?=some u->w.cell? ⟨b,off+i*sz+j,none⟩=some u)∧F i w (.agg l.toArray)
def Ptr (sz:Nat) (F:World->Value->Prop) (w:World) (v:Value):Prop:=
 ∃b o,v = .pointer (some ⟨b,o,none⟩)∧∃l:List Value,l.length=sz∧(∀(j:Nat) (u:Value),l[j]?=some u->w.cell? ⟨b,o+j,none⟩=some u)∧F w (.agg l.toArray)
section
variable {P:Program}{q x:Nat}{a b:Int}
theorem nD  (hT:P.underlying T=some (.slice e)) (hp:∀w v,Φ p w v->Arr sz F n w v) (hx:Φ x=fun _ v=>v = .int .i64 (n:Int)):aj Φ P ⟨0,[.fact p],[⟨.one .i,[(0,0,x)]⟩],.quiet (aK T)⟩:=fun X w ac o xs _ hm ha=>by
 unfold aK at hm
 split at hm
 case h_2=>cases hm
 rename_i args ts ho
 split at hm
 case isFalse=>cases hm
 rename_i hts
 subst hts
 simp only [Option.some.injEq] at hm
 subst hm
 match hl:args.toList,ha with
 | [y],ha=>
  obtain ⟨s,c,hv,_⟩:=hp _ _ (ha.1 w (Off.refl _ _))
  have hargs:args = #[y]:=by apply Array.ext';simpa using hl
  subst hargs
  refine ⟨.int .i64 n,w,?_,bt w none,⟨⟨⟨⟨_,rfl⟩,fun _ h=>by cases h⟩,fun r hr w1 hw=>?_⟩,trivial⟩⟩
  ·unfold execOp
   simp [ho,resolve,invoke,builtin,Builtin.len_,run_underlying hT,hv,goInt]
  ·simp only [List.mem_singleton] at hr;subst hr
   show Φ x w1 _;rw [hx];rfl
theorem iT {ni:Int} (hn:(n:Int)=ni) (hT:P.underlying T=some (.slice e)) (hp:∀w v,Φ p w v->Arr sz F n w v):aj Φ P ⟨0,[.fact p],[⟨.one (.lit (.ci .i64 ni)),[]⟩],.quiet (aK T)⟩:=fun X w ac o xs _ hm ha=>by
 subst hn
 unfold aK at hm
 split at hm
 case h_2=>cases hm
 rename_i args ts ho
 split at hm
 case isFalse=>cases hm
 rename_i hts
 subst hts
 simp only [Option.some.injEq] at hm
 subst hm
 match hl:args.toList,ha with
 | [y],ha=>
  obtain ⟨s,c,hv,_⟩:=hp _ _ (ha.1 w (Off.refl _ _))
  have hargs:args = #[y]:=by apply Array.ext';simpa using hl
  subst hargs
  refine ⟨.int .i64 n,w,?_,bt w none,⟨⟨⟨rfl,fun _ h=>by cases h⟩,fun r hr=>by cases hr⟩,trivial⟩⟩
  unfold execOp
  simp [ho,resolve,invoke,builtin,Builtin.len_,run_underlying hT,hv,goInt]
theorem mu {yt:TypeId}{y z:Operand}{ac:Act}{r:Value} (ho:o.op = .binOp op t y z yt) (h1:ac.eval y = .int .i64 a) (h2:ac.eval z = .int .i64 b) (h:(binOp op t (.int .i64 a) (.int .i64 b)).run P w = .ok r w):(execOp ac.eval o).run P w = .ok (.value r) w:=by
 unfold execOp
 simp only [ho,h1,h2,Sem.run_bind]
 have hg:(eqGuard op t y z (.int .i64 a) (.int .i64 b)).run P w = .ok () w:=by
  unfold eqGuard
  cases op <;> simp
 simp [hg,h]
theorem og {o:Op} (h:au op o=some xs):∃t y z yt,o = .binOp op t y z yt∧xs = [y,z]:=by
 unfold au at h
 split at h
 case h_2=>cases h
 rename_i o' t y z yt
 split at h
 case isFalse=>cases h
 rename_i hc
 simp only [Option.some.injEq] at h
 exact ⟨t,y,z,yt,by rw [aam hc],h.symm⟩
theorem iH {r:Bool} (hp:∀w v,Φ p w v->v = .int .i64 a) (hq:∀w v,Φ q w v->v = .int .i64 b) (h:∀t w,(binOp op t (.int .i64 a) (.int .i64 b)).run P w = .ok (.bool r) w):aj Φ P ⟨0,[.fact p,.fact q],[⟨.one (.lit (.cb r)),[]⟩],.quiet (au op)⟩:=fun X w ac o xs _ hm ha=>by
 obtain ⟨t,y,z,yt,ho,rfl⟩:=og hm
 exact ⟨.bool r,w,mu ho (hp _ _ (ha.1 w (Off.refl _ _))) (hq _ _ (ha.2.1 w (Off.refl _ _))) (h t w),bt w none,⟨⟨⟨rfl,fun _ h=>by cases h⟩,fun r hr=>by cases hr⟩,trivial⟩⟩
theorem cB {r:Bool} (hp:∀w v,Φ p w v->v = .int .i64 a) (h:∀t w,(binOp op t (.int .i64 a) (.int .i64 b)).run P w = .ok (.bool r) w):aj Φ P ⟨0,[.fact p,.lit (.ci .i64 b)],[⟨.one (.lit (.cb r)),[]⟩],.quiet (au op)⟩:=fun X w ac o xs _ hm ha=>by
 obtain ⟨t,y,z,yt,ho,rfl⟩:=og hm
 exact ⟨.bool r,w,mu ho (hp _ _ (ha.1 w (Off.refl _ _))) ha.2.1 (h t w),bt w none,⟨⟨⟨rfl,fun _ h=>by cases h⟩,fun r hr=>by cases hr⟩,trivial⟩⟩
theorem nE  (hT:P.underlying T=some (.slice e)) (hz:dg P e=some sz) (hp:∀w v,Φ p w v->Arr sz F n w v) (hq:∀w v,Φ q w v->v = .int .i64 (i:Int)) (hi:i<n) (hx:Φ x=fun w v=>Ptr sz (F i) w v):aj Φ P ⟨0,[.fact p,.fact q],[⟨.one .p,[(0,0,x)]⟩],.quiet (aN T)⟩:=fun X w ac o xs _ hm ha=>by
 unfold aN at hm
 split at hm
 case h_2=>cases hm
 rename_i t y z ho
 split at hm
 case isFalse=>cases hm
 rename_i ht
 subst ht
 simp only [Option.some.injEq] at hm
 subst hm
 obtain ⟨s,c,hv,he⟩:=hp _ _ (ha.1 w (Off.refl _ _))
 obtain ⟨b,off,rfl,_⟩:=he i hi
 have hi2:=hq _ _ (ha.2.1 w (Off.refl _ _))
 refine ⟨.pointer (some ⟨b,off+i*sz,none⟩),w,?_,bt w none,⟨⟨⟨⟨_,rfl⟩,fun _ h=>by cases h⟩,fun r hr w1 hw=>?_⟩,trivial⟩⟩
 ·unfold execOp
  have h4:¬n<=i:=by omega
  simp [ho,hv,hi2,Instr.indexAt,asIntOf,run_underlying hT,run_sizeOf hz,gV,h4]
 ·simp only [List.mem_singleton] at hr;subst hr
  show Φ x w1 _
  rw [hx]
  obtain ⟨s',c',hv',he'⟩:=hp _ _ (ha.1 w1 hw)
  obtain ⟨b',off',hb,l,h1,h2,h3⟩:=he' i hi
  rw [hv] at hv'
  simp only [Value.slice.injEq] at hv'
  obtain ⟨h4,_⟩:=hv'
  rw [<- h4] at hb
  simp only [Option.some.injEq,Addr.mk.injEq] at hb
  obtain ⟨rfl,rfl,_⟩:=hb
  exact ⟨b,_,rfl,l,h1,h2,h3⟩
theorem cI  (i:Nat){ii:Int} (hT:P.underlying T=some (.slice e)) (hp:∀w v,Φ p w v->Arr sz F n w v) (hii:(i:Int)=ii) (hx:Φ x=fun w v=>Ptr sz (F i) w v) (hz:dg P e=some sz:=by kernel_rfl) (hi:i<n:=by omega):aj Φ P ⟨0,[.fact p,.lit (.ci .i64 ii)],[⟨.one .p,[(0,0,x)]⟩],.quiet (aN T)⟩:=fun X w ac o xs _ hm ha=>by
 subst hii
 unfold aN at hm
 split at hm
 case h_2=>cases hm
 rename_i t y z ho
 split at hm
 case isFalse=>cases hm
 rename_i ht
 subst ht
 simp only [Option.some.injEq] at hm
 subst hm
 obtain ⟨s,c,hv,he⟩:=hp _ _ (ha.1 w (Off.refl _ _))
 obtain ⟨b,off,rfl,_⟩:=he i hi
 have hi2:ac.eval z = .int .i64 (i:Int):=ha.2.1
 refine ⟨.pointer (some ⟨b,off+i*sz,none⟩),w,?_,bt w none,⟨⟨⟨⟨_,rfl⟩,fun _ h=>by cases h⟩,fun r hr w1 hw=>?_⟩,trivial⟩⟩
 ·unfold execOp
  have h4:¬n<=i:=by omega
  simp [ho,hv,hi2,Instr.indexAt,asIntOf,run_underlying hT,run_sizeOf hz,gV,h4]
 ·simp only [List.mem_singleton] at hr;subst hr
  show Φ x w1 _
  rw [hx]
  obtain ⟨s',c',hv',he'⟩:=hp _ _ (ha.1 w1 hw)
  obtain ⟨b',off',hb,l,h1,h2,h3⟩:=he' i hi
  rw [hv] at hv'
  simp only [Value.slice.injEq] at hv'
  obtain ⟨h4,_⟩:=hv'
  rw [<- h4] at hb
  simp only [Option.some.injEq,Addr.mk.injEq] at hb
  obtain ⟨rfl,rfl,_⟩:=hb
  exact ⟨b,_,rfl,l,h1,h2,h3⟩
theorem cU {F:World->Value->Prop} (hp:∀w v,Φ p w v->Ptr sz F w v) (hm':∀w w1 v,Kp w w1->F w v->F w1 v) (hs:∀w v,F w v->sh.is v) (hx:Φ x=F) (hT:gC P T=some true:=by kernel_rfl) (hz:dg P T=some sz:=by kernel_rfl):aj Φ P ⟨0,[.fact p],[⟨sh,[(0,0,x)]⟩],.quiet (aO T)⟩:=fun X w ac o xs _ hm ha=>by
 unfold aO at hm
 split at hm
 case h_2=>cases hm
 rename_i t y ho
 split at hm
 case isFalse=>cases hm
 rename_i ht
 subst ht
 simp only [Option.some.injEq] at hm
 subst hm
 obtain ⟨b,off,hv,l,h1,h2,h3⟩:=hp _ _ (ha.1 w (Off.refl _ _))
 refine ⟨.agg l.toArray,w,?_,bt w none,⟨⟨hs _ _ h3,fun r hr w1 hw=>?_⟩,trivial⟩⟩
 ·have hrun:=run_loadCells_list (P:=P) w ⟨b,off,none⟩ l (fun j u hj=>by rw [gV];exact h2 j u hj)
  rw [h1] at hrun
  unfold execOp
  simp [ho,hv,Instr.loadAt,Instr.sureAddr,loadVar,gD hT,run_sizeOf hz,hrun]
 ·simp only [List.mem_singleton] at hr;subst hr
  show Φ x w1 _;rw [hx];exact hm' _ _ _ hw.1 h3
theorem sK {J:List Nat}{F:World->Value->Prop} (hp:∀w v,Φ p w v->Ptr sz F w v) (hm':∀w w1 v,Kp w w1->F w v->F w1 v) (hs:∀w v,F w v->sh.is v) (hx:Φ x=F) (hT:gC P T=some true:=by kernel_rfl) (hz:dg P T=some sz:=by kernel_rfl):aj Φ P ⟨0,[.fact p],[⟨sh,[(0,0,x)]⟩],.kE J (aO T)⟩:=fun X w ac o xs _ hm ha=>by
 unfold aO at hm
 split at hm
 case h_2=>cases hm
 rename_i t y ho
 split at hm
 case isFalse=>cases hm
 rename_i ht
 subst ht
 simp only [Option.some.injEq] at hm
 subst hm
 obtain ⟨b,off,hv,l,h1,h2,h3⟩:=hp _ _ (ha.1 w (Off.refl _ _))
 refine ⟨.agg l.toArray,w,?_,bt w none,fun Y=>⟨⟨hs _ _ h3,fun r hr w1 hw=>?_⟩,trivial⟩⟩
 ·have hrun:=run_loadCells_list (P:=P) w ⟨b,off,none⟩ l (fun j u hj=>by rw [gV];exact h2 j u hj)
  rw [h1] at hrun
  unfold execOp
  simp [ho,hv,Instr.loadAt,Instr.sureAddr,loadVar,gD hT,run_sizeOf hz,hrun]
 ·simp only [List.mem_singleton] at hr;subst hr
  show Φ x w1 _;rw [hx];exact hm' _ _ _ hw.1 h3
end
abbrev WP:=World->Value->Prop
abbrev PH:=Nat->World->Value->Prop
theorem ad {P:α->β->Prop} (a:α) (b:β) (h:P a b):P a b:=h
theorem aV {γ:Type}{P:α->β->γ->Prop} (a:α) (b:β) (c:γ) (h:P a b c):P a b c:=h
theorem bS {P:α->β->Prop} (a:α) (b:β) (_:P a b):True:=trivial
abbrev oT:List Out:=[⟨.one (.lit (.cb true)),[]⟩]
abbrev oF:List Out:=[⟨.one (.lit (.cb false)),[]⟩]
abbrev oL (a:Atom):Out:=⟨.one (.lit a),[]⟩
abbrev oS (x:Nat):Out:=⟨.one .s,[(0,0,x)]⟩
abbrev oN (x:Nat):Out:=⟨.one .i,[(0,0,x)]⟩
abbrev oP (x:Nat):Out:=⟨.one .p,[(0,0,x)]⟩
abbrev oK (x:Nat):Out:=⟨.one .nk,[(0,0,x)]⟩
abbrev oI (x:Nat):Out:=⟨.agg [.b,.s],[(0,0,x)]⟩
abbrev oR (x:Nat):Out:=⟨.agg [.b,.s,.b,.s],[(0,0,x)]⟩
abbrev oD (x:Nat):Out:=⟨.agg [.s,.b],[(0,0,x)]⟩
abbrev oQ (x:Nat):Out:=⟨.agg [.s,.b,.s,.b],[(0,0,x)]⟩
abbrev bQ (a:List Arg) (o:List Out) (m:Op->Option (List Operand)):Step:=.base ⟨0,a,o,.quiet m⟩
theorem lB {P:Program}{Φ:PH} (h:aj Φ P s) (hl:∀t,t ∈ l->cg P Φ t):∀t,t ∈ Step.base s :: l->cg P Φ t:=aal h hl
end Go.Proofs.YtbjfgffibepmkaaGreat.Sym
