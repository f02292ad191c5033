/- Straight pieces of Go, w -/
import Derived.Test.YtlmanbjkkjfjgaaGreatPolA
import Derived.Laws.Tables
import Derived.Laws.IdiomCopy
import Derived.IntWalk
import Derived.LoopN
namespace Go.Proofs.YtlmanbjkkjfjgaaGreat.Sym
open Go.RowKit
variable {J':List Nat}{X Y:Nat->Prop}{i ix j k m n p sz:Nat}{a:Act}{W b w w':World}{c:Call}{d:Option Tmp}{r:Option Nat}{F Φ Ψ:Nat->World->Value->Prop}{α β:Type}{u v:Value}{xs:List Operand}{T e t:TypeId}{x x0:Operand}{o:Oper}{f:FuncId}{op:BinOp}{K:Act->World->Prop}
inductive Atom where
 | b (k c:Nat) | s (k c:Nat) | i (k c:Nat) | t (k c:Nat) | p (k c:Nat) | nk (k c:Nat) | fv (k c:Nat)
 | cb (v:Bool) | ci (k:IntKind) (z:Int) | nl | un | cs (l:List UInt8) | fn (f:FuncId)
 | ptr (k o:Nat) | row (k n:Nat) | mu (f:FuncId) (k:Nat)
 deriving Inhabited
inductive C where
 | one (a:Atom) | agg (l:List Atom)
 deriving Inhabited
inductive SV where
 | c (x:C) | bJ (l:List C)
 deriving Inhabited
structure Env where
 b:Nat->Nat->Bool
 s:Nat->Nat->Option Addr×Nat×Nat
 i:Nat->Nat->Int
 t:Nat->Nat->ByteArray
 p:Nat->Nat->Option Addr
 nk:Nat->Nat->IntKind×Int
 g:Nat->Option Nat
 o:Nat->Nat->Prop
 v:Nat->Nat->FuncId×Array Value
def da:Env:=⟨λ_ _=>false,λ_ _=>(none,0,0),λ_ _=>0,λ_ _=>⟨#[]⟩,λ_ _=>none,λ_ _=>(.i64,0),λ_=>none,λ_ _=>False,λ_ _=>(0,#[])⟩
def Atom.ev (ρ:Env):Atom->Value
 | .b k c=>.bool (ρ.b k c)
 | .s k c=>.slice (ρ.s k c).1 (ρ.s k c).2.1 (ρ.s k c).2.2
 | .i k c=>.int .i64 (ρ.i k c)
 | .t k c=>.string (ρ.t k c)
 | .p k c=>.pointer (ρ.p k c)
 | .nk k c=>.int (ρ.nk k c).1 (ρ.nk k c).2
 | .cb v=>.bool v
 | .ci k z=>.int k z
 | .nl=>.slice none 0 0
 | .un=>undef
 | .cs l=>.string ⟨l.toArray⟩
 | .fn f=>.func (.func f) #[] #[]
 | .fv k c=>.func (.func (ρ.v k c).1) #[] (ρ.v k c).2
 | .ptr k o=>.pointer (some ⟨(ρ.g k).getD 0,o,none⟩)
 | .row k n=>.slice (some ⟨(ρ.g k).getD 0,0,none⟩) n n
 | .mu f k=>.func (.func f) #[] #[.pointer (some ⟨(ρ.g k).getD 0,0,none⟩)]
def C.ev (ρ:Env):C->Value
 | .one a=>a.ev ρ
 | .agg l=>.agg (l.map (Atom.ev ρ)).toArray
def SV.ev (ρ:Env):SV->Value
 | .c x=>x.ev ρ
 | .bJ l=>.tuple (l.map (C.ev ρ)).toArray
def C.cells:C->List Atom
 | .one a=>[a]
 | .agg l=>l
def Atom.st:Atom->Option Nat
 | .b k _ | .s k _ | .i k _ | .t k _ | .p k _ | .nk k _ | .fv k _ | .ptr k _ | .row k _ | .mu _ k=>some k
 | _=>none
def C.sts (x:C):List Nat:=x.cells.filterMap Atom.st
def SV.sts:SV->List Nat
 | .c x=>x.sts
 | .bJ l=>l.flatMap C.sts
def Atom.still:Atom->Bool
 | .i _ _ | .nk _ _ | .ci _ _ | .un=>false
 | _=>true
def Atom.zG:Atom->Bool
 | .un=>false
 | _=>true
def Atom.beq:Atom->Atom->Bool
 | .b k c,.b k' c' | .s k c,.s k' c' | .i k c,.i k' c' | .t k c,.t k' c' | .p k c,.p k' c' | .nk k c,.nk k' c' | .fv k c,.fv k' c' | .ptr k c,.ptr k' c' | .row k c,.row k' c'=>k == k' && c == c'
 | .cb v,.cb v'=>v == v'
 | .ci k z,.ci k' z'=>k == k' && z == z'
 | .nl,.nl | .un,.un=>true
 | .cs l,.cs l'=>l == l'
 | .fn f,.fn f'=>f == f'
 | .mu f k,.mu f' k'=>f == f' && k == k'
 | _,_=>false
theorem Atom.dK {x y:Atom} (h:x.beq y=true):x=y:=by cases x <;> cases y <;> simp_all [Atom.beq]
variable {a0 z:Atom}{ats cs:List Atom}
def nR {α:Type} (f:α->α->Bool):List α->List α->Bool
 | [],[]=>true
 | x :: xs,y :: ys=>f x y && nR f xs ys
 | _,_=>false
theorem zH {α:Type}{f:α->α->Bool} (hf:∀x y,f x y=true->x=y):∀{xs ys:List α},nR f xs ys=true->xs=ys
 | [],[],_=>rfl
 | x :: xs,y :: ys,h=>by simp only [nR,Bool.and_eq_true] at h;rw [hf _ _ h.1,zH hf h.2]
 | [],_ :: _,h=>by simp [nR] at h
 | _ :: _,[],h=>by simp [nR] at h
def C.beq:C->C->Bool
 | .one a,.one b=>a.beq b
 | .agg l,.agg m=>nR Atom.beq l m
 | _,_=>false
theorem C.dK {x y:C} (h:x.beq y=true):x=y:=by
 cases x <;> cases y <;> simp only [C.beq,Bool.false_eq_true] at h
 ·rw [Atom.dK h]
 ·rw [zH (λ_ _=>Atom.dK) h]
def SV.beq:SV->SV->Bool
 | .c x,.c y=>x.beq y
 | .bJ l,.bJ m=>nR C.beq l m
 | _,_=>false
theorem SV.dK {x y:SV} (h:x.beq y=true):x=y:=by
 cases x <;> cases y <;> simp only [SV.beq,Bool.false_eq_true] at h
 ·rw [C.dK h]
 ·rw [zH (λ_ _=>C.dK) h]
inductive It where
 | slot (t:Nat) (v:SV) | cell (k o:Nat) (a:Atom) | fact (x:C) (p:Nat) | held (J:List Nat) (x:C) (p:Nat) | lo (j:Nat) (a:Atom) | eo (J:List Nat) (a:Atom)
 deriving Inhabited
def It.beq:It->It->Bool
 | .slot t v,.slot u w=>t == u && v.beq w
 | .cell k o a,.cell k' o' a'=>k == k' && o == o' && a.beq a'
 | .fact x p,.fact y q=>p == q && x.beq y
 | .held J x p,.held J' y q=>J == J' && (p == q && x.beq y)
 | .lo j a,.lo j' a'=>j == j' && a.beq a'
 | .eo J a,.eo J' a'=>J == J' && a.beq a'
 | _,_=>false
theorem It.dK {x y:It} (h:x.beq y=true):x=y:=by
 cases x <;> cases y <;> simp only [It.beq,Bool.false_eq_true,Bool.and_eq_true,beq_iff_eq] at h
 ·rw [h.1,SV.dK h.2]
 ·rw [h.1.1,h.1.2,Atom.dK h.2]
 ·rw [h.1,C.dK h.2]
 ·rw [h.1,h.2.1,C.dK h.2.2]
 ·rw [h.1,Atom.dK h.2]
 ·rw [h.1,Atom.dK h.2]
def It.sts:It->List Nat
 | .slot _ v=>v.sts
 | .cell k _ a=>k :: a.st.toList
 | .fact x _=>x.sts
 | .held _ x _=>x.sts
 | .lo _ a=>a.st.toList
 | .eo _ a=>a.st.toList
inductive Key where
 | slot (t:Nat) | cell (k o:Nat) | loose (j:Nat) | box (k:Nat) | rE (j:Nat) (a:Atom)
variable {kill:List Key}
def It.hit:It->Key->Bool
 | .slot t _,.slot u=>t == u
 | .cell k o _,.cell k' o'=>k == k' && o == o'
 | .held J _ _,.loose j=>J.contains j
 | .cell k _ _,.box k'=>k == k'
 | .lo k b,.rE j a=>k == j && !b.beq a
 | .eo J _,.rE j _=>J.contains j
 | _,_=>false
def Off (X:Nat->Prop) (w w':World):Prop:=Kp w w'∧∀k,k<w.heap.size->¬X k->w'.heap[k]?=w.heap[k]?
def co (J:List Nat) (X:Nat->Prop) (ρ:Env) (k:Nat):Prop:=X k∨(∃j,ρ.g j=some k)∨∃j,j ∉ J∧ρ.o j k
abbrev Own (X:Nat->Prop) (ρ:Env) (k:Nat):Prop:=co [] X ρ k
theorem co.less {J:List Nat}{ρ:Env} (h:co J X ρ k) (hJ:∀j,j ∈ J'->j ∈ J):co J' X ρ k:=
 h.elim .inl λh=>.inr (h.elim .inl λ⟨j,h1,h2⟩=>.inr ⟨j,λh=>h1 (hJ j h),h2⟩)
theorem co.own {J:List Nat}{ρ:Env} (h:co J X ρ k):Own X ρ k:=h.less λ_ h=>by cases h
def blk:Value->Option Nat
 | .slice (some p) _ _=>some p.block
 | _=>none
theorem Off.refl (X:Nat->Prop) (w:World):Off X w w:=⟨Kp.refl w,λ_ _ _=>rfl⟩
theorem Off.trans {a c:World} (h:Off X a b) (k:Off Y b c) (hs:∀m,m<a.heap.size->Y m->X m):Off X a c:=
 ⟨h.1.trans k.1,λm hm hx=>(k.2 m (Nat.lt_of_lt_of_le hm h.1.1) (λy=>hx (hs m hm y))).trans (h.2 m hm hx)⟩
theorem Off.grown  (g:w.grownBy w' none):Off X w w':=⟨Kp.of g,λk hk _=>g.block k hk (by simp)⟩
theorem Off.wide {a:World} (h:Off X a b) (hs:∀m,X m->Y m):Off Y a b:=⟨h.1,λm hm hy=>h.2 m hm (λx=>hy (hs m x))⟩
section
variable (Φ:Nat->World->Value->Prop)(X:Nat->Prop)
def It.holds (ρ:Env) (a:Act) (w:World):It->Prop
 | .slot t v=>a.tmps[t]?=some (v.ev ρ)
 | .cell k o x=>∃g,ρ.g k=some g∧w.cell? ⟨g,o,none⟩=some (x.ev ρ)∧w.frozen? ⟨g,o,none⟩=false
 | .fact x p=>∀w',Off (Own X ρ) w w'->Φ p w' (x.ev ρ)
 | .held J x p=>∀w',Off (co J X ρ) w w'->Φ p w' (x.ev ρ)
 | .lo j x=>∀g,blk (x.ev ρ)=some g->ρ.o j g
 | .eo J x=>∀g,blk (x.ev ρ)=some g->∃j,j ∈ J∧ρ.o j g
end
structure Good (X:Nat->Prop) (W:World) (n:Nat) (ρ:Env) (a:Act) (w:World):Prop where
 defers:a.defers = []
 size:a.tmps.size=n
 grown:W.grownBy w none
 inj:∀j k g,ρ.g j=some g->ρ.g k=some g->j=k
 lo:∀k g,ρ.g k=some g->W.heap.size<=g∧g<w.heap.size
 old:∀k,X k->k<W.heap.size
 loose:∀j k,ρ.o j k->W.heap.size<=k∧k<w.heap.size
 apart:∀i j k,ρ.g j=some k->¬ρ.o i k
 one:∀i j k,ρ.o i k->ρ.o j k->i=j
 far:W.drawn<=w.heap.size∧∀j k,2<=j->ρ.o j k->W.drawn<=k
theorem GC {d:Nat} (h:World.grownBy { w with drawn:=d } w' r):w.grownBy w' r:=⟨h.os,h.tape,h.output,h.size,h.block⟩
theorem GA {d:Nat} (h:w.grownBy w' r):World.grownBy { w with drawn:=d } w' r:=⟨h.os,h.tape,h.output,h.size,h.block⟩
theorem Good.below {ρ:Env} (h:Good X W n ρ a w) (hk:Own X ρ k):k<w.heap.size:=by
 rcases hk with hk | ⟨j,hk⟩ | ⟨j,-,hk⟩
 ·exact Nat.lt_of_lt_of_le (h.old k hk) h.grown.size
 ·exact (h.lo j k hk).2
 ·exact (h.loose j k hk).2
structure eE (X:Nat->Prop) (W:World) (n:Nat) (k:Nat) (kill:List Key) (ρ:Env) (w:World) (ρ':Env) (w':World):Prop where
 same:∀x:Atom,x.st≠some k->x.ev ρ'=x.ev ρ
 g:∀j,j≠k->ρ'.g j=ρ.g j
 good:∀a,Good X W n ρ a w->Good X W n ρ' a w'
 cells:∀j o g v,(∀y,y ∈ kill->(It.cell j o .un).hit y=false)->ρ.g j=some g->w.cell? ⟨g,o,none⟩=some v->w.frozen? ⟨g,o,none⟩=false->w'.cell? ⟨g,o,none⟩=some v∧w'.frozen? ⟨g,o,none⟩=false
 tight:∀J,(∀y,y ∈ kill->(It.held J (.one .un) 0).hit y=false)->Off (co J X ρ) w w'
 own:∀J m,m<w.heap.size->co J X ρ' m->co J X ρ m
 o:∀j (x:Atom),(∀y,y ∈ kill->(It.lo j x).hit y=false)->∀m,blk (x.ev ρ)=some m->ρ.o j m->ρ'.o j m
 os:∀j,(∀y,y ∈ kill->(It.eo [j] .un).hit y=false)->∀m,ρ.o j m->ρ'.o j m
theorem eE.off {ρ ρ':Env} (h:eE X W n k kill ρ w ρ' w'):Off (Own X ρ) w w':=h.tight [] λy _=>by cases y <;> rfl
theorem eE.of {ρ ρ':Env} (same:∀x:Atom,x.st≠some k->x.ev ρ'=x.ev ρ) (g:∀j,j≠k->ρ'.g j=ρ.g j) (good:∀a,Good X W n ρ a w->Good X W n ρ' a w')
  (cells:∀j o g v,(∀y,y ∈ kill->(It.cell j o .un).hit y=false)->ρ.g j=some g->w.cell? ⟨g,o,none⟩=some v->w.frozen? ⟨g,o,none⟩=false->w'.cell? ⟨g,o,none⟩=some v∧w'.frozen? ⟨g,o,none⟩=false)
  (t:Off (λm=>X m∨∃j,ρ.g j=some m) w w') (hg:∀m j,m<w.heap.size->ρ'.g j=some m->∃i,ρ.g i=some m) (ho:ρ'.o=ρ.o):eE X W n k kill ρ w ρ' w':=
 ⟨same,g,good,cells,λJ _=>t.wide λ_ h=>h.elim .inl λh=>.inr (.inl h),λJ m hm h=>by
  rcases h with h | ⟨j,h⟩ | ⟨j,h1,h2⟩
  ·exact .inl h
  ·exact .inr (.inl (hg m j hm h))
  ·exact .inr (.inr ⟨j,h1,by rw [<- ho];exact h2⟩),λj x _ m _ h=>by rw [ho];exact h,λj _ m h=>by rw [ho];exact h⟩
theorem C.same {ρ ρ':Env} (h:∀x:Atom,x.st≠some k->x.ev ρ'=x.ev ρ) (x:C) (hx:k ∉ x.sts):x.ev ρ'=x.ev ρ:=by
 have h2:∀a,a ∈ x.cells->a.ev ρ'=a.ev ρ:=λa ha=>h a λe=>hx (List.mem_filterMap.2 ⟨a,ha,e⟩);cases x with
 | one a=>exact h2 a (by simp [C.cells])
 | agg l=>
  have e:l.map (Atom.ev ρ')=l.map (Atom.ev ρ):=List.map_congr_left λa ha=>h2 a ha;simp only [C.ev,e]
theorem SV.same {k:Nat}{ρ ρ':Env} (h:∀x:Atom,x.st≠some k->x.ev ρ'=x.ev ρ) (x:SV) (hx:k ∉ x.sts):x.ev ρ'=x.ev ρ:=by
 cases x with
 | c x=>exact C.same h x hx
 | bJ l=>
  have e:l.map (C.ev ρ')=l.map (C.ev ρ):=List.map_congr_left λa ha=>C.same h a λe=>hx (List.mem_flatMap.2 ⟨a,ha,e⟩);simp only [SV.ev,e]
theorem frame {ρ ρ':Env}{a':Act} (h:eE X W n k kill ρ w ρ' w')
  (ha:∀t,(∀y,y ∈ kill->(It.slot t (.c (.one .un))).hit y=false)->a'.tmps[t]?=a.tmps[t]?) (x:It) (hx:x.holds Φ X ρ a w) (hk:∀y,y ∈ kill->x.hit y=false) (hs:k ∉ x.sts):x.holds Φ X ρ' a' w':=by
 cases x with
 | slot t v=>
  simp only [It.holds] at hx ⊢;rw [ha t (λy hy=>by have:=hk y hy;cases y <;> simp_all [It.hit]),hx,SV.same h.same v hs]
 | cell j o x=>
  obtain ⟨g,h1,h2,h3⟩:=hx;have hj:j≠k:=λe=>hs (by simp [It.sts,e]);have hx:x.st≠some k:=λe=>hs (by simp [It.sts,e]);obtain ⟨h4,h5⟩:=h.cells j o g _ (λy hy=>by have:=hk y hy;cases y <;> simp_all [It.hit]) h1 h2 h3;exact ⟨g,by rw [h.g j hj];exact h1,by rw [h.same x hx];exact h4,h5⟩
 | fact x p=>
  intro w'' hw;have:=hx w'' (h.off.trans hw (h.own []));rw [C.same h.same x hs];exact this
 | held J x p=>
  intro w'' hw;have:=hx w'' ((h.tight J (λy hy=>by have:=hk y hy;cases y <;> simp_all [It.hit])).trans hw (h.own J));rw [C.same h.same x hs];exact this
 | lo j x=>
  intro g hg;have hx':x.st≠some k:=λe=>hs (by simp [It.sts,e]);rw [h.same x hx'] at hg;exact h.o j x hk g hg (hx g hg)
 | eo J x=>
  intro g hg;have hx':x.st≠some k:=λe=>hs (by simp [It.sts,e]);rw [h.same x hx'] at hg;obtain ⟨j,h1,h2⟩:=hx g hg;exact ⟨j,h1,h.os j (λy hy=>by have:=hk y hy;cases y <;> simp_all [It.hit];exact λe=>this (e▸h1)) g h2⟩
theorem KN {α β:Type}{f:α->Option β}:∀{l:List α}{m:List β},l.mapM f=some m->m.length=l.length∧∀(j:Nat) (x:α),l[j]?=some x->∃y:β,m[j]?=some y∧f x=some y
 | [],m,h=>by simp at h;subst h;simp
 | x :: l,m,h=>by
  simp only [List.mapM_cons,Option.bind_eq_bind,Option.pure_def] at h;cases hx:f x with
  | none=>simp [hx] at h
  | some y=>
   cases hl:l.mapM f with
   | none=>simp [hx,hl] at h
   | some ys=>
    simp [hx,hl] at h;subst h;obtain ⟨h1,h2⟩:=KN hl;refine ⟨by simp [h1],λj z hz=>?_⟩;cases j with
    | zero=>simp at hz;subst hz;exact ⟨y,by simp,hx⟩
    | succ j=>simp at hz;obtain ⟨u,h3,h4⟩:=h2 j z hz;exact ⟨u,by simpa using h3,h4⟩
theorem ahs {f:α->Option Atom}{g:α->Value}{ρ:Env} (hf:∀x y,f x=some y->y.ev ρ=g x):∀{l:List α}{m:List Atom},l.mapM f=some m->m.map (Atom.ev ρ)=l.map g:=λ{l m} h=>by
 obtain ⟨h1,h2⟩:=KN h;apply List.ext_getElem?;intro j;simp only [List.getElem?_map];cases hl:l[j]? with
 | none=>rw [List.getElem?_eq_none (by rw [h1];exact List.getElem?_eq_none_iff.1 hl)];rfl
 | some x=>obtain ⟨y,h3,h4⟩:=h2 j x hl;rw [h3];simp [hf x y h4]
def adN:Value->Option Atom
 | .bool b=>some (.cb b)
 | .int k z=>some (.ci k z)
 | .slice none 0 0=>some .nl
 | .string s=>some (.cs s.data.toList)
 | _=>none
theorem KO {a:Atom} (h:adN v=some a) (ρ:Env):a.ev ρ=v:=by unfold adN at h;split at h <;> simp at h <;> subst h <;> simp [Atom.ev]
def pG:Value->Option C
 | .agg cs=>(cs.toList.mapM adN).map .agg
 | v=>(adN v).map .one
theorem zI {x:C} (h:pG v=some x) (ρ:Env):x.ev ρ=v:=by
 unfold pG at h;split at h
 ·rename_i cs;cases hm:cs.toList.mapM adN with
  | none=>simp [hm] at h
  | some l=>
   simp [hm] at h;subst h;simp only [C.ev];rw [ahs (g:=id) (λx y hy=>KO hy ρ) hm];simp
 ·rename_i hv;cases ha:adN v with
  | none=>simp [ha] at h
  | some a=>simp [ha] at h;subst h;exact KO ha ρ
theorem kR (x:C) (ρ:Env):(x.ev ρ).cells=(x.cells.map (Atom.ev ρ)).toArray:=by
 cases x with
 | one a=>cases a <;> rfl
 | agg l=>rfl
def fU:List It->Nat->Option SV
 | [],_=>none
 | .slot t v :: l,u=>if t == u then some v else fU l u
 | .cell _ _ _ :: l,u=>fU l u
 | .fact _ _ :: l,u=>fU l u
 | .held _ _ _ :: l,u=>fU l u
 | .lo _ _ :: l,u=>fU l u
 | .eo _ _ :: l,u=>fU l u
def findCell:List It->Nat->Nat->Option Atom
 | [],_,_=>none
 | .slot _ _ :: l,k,o=>findCell l k o
 | .cell k' o' a :: l,k,o=>if k' == k && o' == o then some a else findCell l k o
 | .fact _ _ :: l,k,o=>findCell l k o
 | .held _ _ _ :: l,k,o=>findCell l k o
 | .lo _ _ :: l,k,o=>findCell l k o
 | .eo _ _ :: l,k,o=>findCell l k o
def val (st:List It):Operand->Option (SV×List It)
 | .tmp t=>(fU st t).map λv=>(v,[.slot t v])
 | .const v=>(pG v).map λx=>(.c x,[])
 | .func f=>some (.c (.one (.fn f)),[])
 | _=>none
section
variable {ρ:Env}{st:List It}
theorem uJ {xs:Array Value}{t:Nat} (h:xs[t]?=some v):xs.getD t undef=v:=by rw [Array.getD_eq_getD_getElem?,h];rfl
theorem val_ok {v:SV}{l:List It} (h:val st x=some (v,l)) (hl:∀y,y ∈ l->y.holds Φ X ρ a w):a.eval x=v.ev ρ:=by
 cases x with
 | tmp t=>
  simp only [val] at h;cases hs:fU st t with
  | none=>simp [hs] at h
  | some u=>
   simp [hs] at h;obtain ⟨rfl,rfl⟩:=h;exact uJ (v:=u.ev ρ) (hl (.slot t u) (by simp))
 | const u=>
  simp only [val] at h;cases hs:pG u with
  | none=>simp [hs] at h
  | some y=>
   simp [hs] at h;obtain ⟨rfl,rfl⟩:=h;exact (zI hs ρ).symm
 | global g=>simp [val] at h
 | func f=>
  simp only [val,Option.some.injEq,Prod.mk.injEq] at h;obtain ⟨rfl,rfl⟩:=h;rfl
end
def fB (st:List It) (k:Nat):Nat->Nat->Option (List Atom)
 | _,0=>some []
 | o,n+1=>match findCell st k o,fB st k (o+1) n with
  | some a,some l=>some (a :: l)
  | _,_=>none
def fC (k:Nat):Nat->List Atom->List It
 | _,[]=>[]
 | o,a :: l=>.cell k o a :: fC k (o+1) l
theorem kU {k:Nat}:∀{l:List Atom}{o j:Nat}{x:Atom},l[j]?=some x->It.cell k (o+j) x ∈ fC k o l
 | [],_,_,_,h=>by simp at h
 | y :: l,o,0,x,h=>by simp at h;subst h;simp [fC]
 | y :: l,o,j+1,x,h=>by have:=kU (k:=k) (o:=o+1) (l:=l) (j:=j) (x:=x) (by simpa using h);rw [show o+1+j=o+(j+1) by omega] at this;exact List.mem_cons_of_mem _ this
theorem rF {k:Nat}:∀{l:List Atom}{o:Nat}{y:It},y ∈ fC k o l->∃j x,y = .cell k (o+j) x∧l[j]?=some x
 | [],_,_,h=>by cases h
 | x :: l,o,y,h=>by
  rcases List.mem_cons.1 h with rfl | h
  ·exact ⟨0,x,rfl,rfl⟩
  ·obtain ⟨j,z,h1,h2⟩:=rF h;exact ⟨j+1,z,by rw [h1,show o+1+j=o+(j+1) by omega],by simpa using h2⟩
theorem nS {st:List It}{k:Nat}:∀{n o:Nat}{l:List Atom},fB st k o n=some l->l.length=n
 | 0,_,l,h=>by simp [fB] at h;subst h;rfl
 | n+1,o,l,h=>by
  simp only [fB] at h;split at h
  ·rename_i a l' h1 h2;simp at h;subst h;simp [nS h2]
  ·cases h
theorem jH (g o j:Nat):(⟨g,o,none⟩:Addr).add j=⟨g,o+j,none⟩:=by unfold Addr.add;split <;> simp_all
section
variable {P:Program}{ρ:Env}{st:List It}
def gV (P:Program) (t:TypeId):Option Bool:=(P.underlying t).map λ| .struct _=>true | .array _ _=>true | _=>false
theorem gW {b:Bool} (h:gV P t=some b) (w:World):(isAgg t).run P w = .ok b w:=by
 unfold gV at h;cases hu:P.underlying t with
 | none=>simp [hu] at h
 | some d=>
  simp [hu] at h;unfold isAgg;simp only [Sem.run_bind,run_underlying hu,Result.andThen_ok];cases d <;> simp_all
def dU (P:Program) (t:TypeId):Option Nat:=(P.info? t).map (·.size)
theorem run_sizeOf  (h:dU P t=some n) (w:World):(sizeOf t).run P w = .ok n w:=by
 unfold dU at h;cases hi:P.info? t with
 | none=>simp [hi] at h
 | some i=>simp [hi] at h;subst h;simp [sizeOf,typeInfo,hi]
def zeroAt (P:Program) (t:TypeId):Option C:=((P.info? t).bind (·.zero)).bind pG
theorem ui {x:C} (h:zeroAt P t=some x) (ρ:Env) (w:World):(zeroValue t).run P w = .ok (x.ev ρ) w:=by
 unfold zeroAt at h;cases hi:P.info? t with
 | none=>simp [hi] at h
 | some i=>
  cases hz:i.zero with
  | none=>simp [hi,hz] at h
  | some z=>
   simp [hi,hz] at h;simp [zeroValue,typeInfo,hi,hz,zI h ρ]
def mw (P:Program) (st:List It) (t:TypeId) (k o:Nat):Option (C×List It):=
 match gV P t,dU P t with
 | some true,some n=>(fB st k o n).map λl=>(.agg l,fC k o l)
 | some false,some _=>(findCell st k o).map λx=>(.one x,[.cell k o x])
 | _,_=>none
theorem KP {o:Nat}{x:C}{l:List It} (h:mw P st t k o=some (x,l)) (hl:∀y,y ∈ l->y.holds Φ X ρ a w) :
  (Instr.loadAt t ((Atom.ptr k o).ev ρ)).run P w = .ok (x.ev ρ) w:=by
 unfold mw at h;have e0:(Instr.sureAddr ((Atom.ptr k o).ev ρ))=pure ⟨(ρ.g k).getD 0,o,none⟩:=rfl;split at h
 ·rename_i n ha hs;cases hc:fB st k o n with
  | none=>simp [hc] at h
  | some cs=>
   simp [hc] at h;obtain ⟨rfl,rfl⟩:=h;have hlen:=nS hc;have hrun:=run_loadCells_list (P:=P) w ⟨(ρ.g k).getD 0,o,none⟩ (cs.map (Atom.ev ρ)) (λj v hv=>by
    simp only [List.getElem?_map,Option.map_eq_some_iff] at hv;obtain ⟨y,hy,rfl⟩:=hv;obtain ⟨g,h1,h2,h3⟩:=hl _ (kU (o:=o) hy);rw [jH,h1];exact h2)
   simp only [List.length_map,hlen] at hrun;simp [Instr.loadAt,e0,loadVar,gW ha,run_sizeOf hs,hrun,C.ev]
 ·rename_i n ha hs;cases hc:findCell st k o with
  | none=>simp [hc] at h
  | some y=>
   simp [hc] at h;obtain ⟨rfl,rfl⟩:=h;obtain ⟨g,h1,h2,h3⟩:=hl _ (List.mem_singleton.2 rfl);simp [Instr.loadAt,e0,loadVar,gW ha,h1,h2,C.ev]
 ·cases h
def uK (P:Program) (t:TypeId) (i:Int):Option Nat:=match P.underlying t with
 | some (.array n e)=>match dU P e with
  | some z=>if 0<=i∧i<n then some (i.toNat*z) else none
  | none=>none
 | _=>none
theorem aht {off o:Nat}{i:Int}{kd:IntKind} (h:uK P t i=some off):(Instr.indexAt t ((Atom.ptr k o).ev ρ) ((Atom.ci kd i).ev ρ)).run P w = .ok ((Atom.ptr k (o+off)).ev ρ) w:=by
 unfold uK at h;split at h
 ·rename_i n e hu;split at h
  ·rename_i z hs;split at h
   ·rename_i hi;simp at h;subst h;simp [Instr.indexAt,asIntOf,run_underlying hu,Instr.sureAddr,run_sizeOf hs,hi,jH,Atom.ev]
   ·cases h
  ·cases h
 ·cases h
def rg (P:Program) (s:TypeId) (f:Nat):Option Nat:=
 match P.underlying s with
 | some (.struct fs)=>match fs[f]? with
  | some fd=>match dU P fd.type with
   | some 0=>none
   | some _=>some fd.offset
   | none=>none
  | none=>none
 | _=>none
theorem GG {s:TypeId}{f off o:Nat} (h:rg P s f=some off):(Instr.fieldAt s ((Atom.ptr k o).ev ρ) f).run P w = .ok ((Atom.ptr k (o+off)).ev ρ) w:=by
 unfold rg at h;split at h
 ·rename_i fs hu;split at h
  ·rename_i fd hf;split at h
   ·cases h
   ·rename_i n hs hn;simp at h;subst h;have hn':n≠0:=λe=>hs e;simp [Instr.fieldAt,run_underlying hu,hf,Instr.sureAddr,fieldPlace,run_sizeOf hn,hn',jH,Atom.ev]
   ·cases h
  ·cases h
 ·cases h
def setAt (l:List Atom) (o:Nat):List Atom->List Atom
 | []=>l
 | x :: xs=>setAt (l.set o x) (o+1) xs
def mz (place:Nat->Option (Nat×Nat)) (cells:List Atom):List (Nat×List Atom)->Option (List Atom)
 | []=>some cells
 | (i,v) :: rest=>match place i with
  | none=>none
  | some (off,size)=>if v.length≠size || off+v.length > cells.length then none else mz place (setAt cells off v) rest
theorem KQ (ρ:Env):∀(v l:List Atom) (o j:Nat),((v.map (Atom.ev ρ)).zipIdx j).foldl (λ(cs:Array Value) (c:Value×Nat)=>cs.setIfInBounds (o+c.2) c.1) (l.map (Atom.ev ρ)).toArray=((setAt l (o+j) v).map (Atom.ev ρ)).toArray
 | [],_,_,_=>rfl
 | x :: xs,l,o,j=>by
  simp only [List.map_cons,List.zipIdx_cons,List.foldl_cons,setAt];have:(l.map (Atom.ev ρ)).toArray.setIfInBounds (o+j) (x.ev ρ)=((l.set (o+j) x).map (Atom.ev ρ)).toArray:=by simp [List.map_set]
  rw [this,KQ ρ xs _ o (j+1)];rfl
theorem zJ (ρ:Env){place:Nat->Option (Nat×Nat)}:∀{parts:List (Nat×C)}{cells out:List Atom},mz place cells (parts.map λq=>(q.1,q.2.cells))=some out->
  Instr.fill place (cells.map (Atom.ev ρ)).toArray (parts.map λq=>(q.1,q.2.ev ρ))=some (out.map (Atom.ev ρ)).toArray
 | [],cells,out,h=>by simp [mz] at h;subst h;rfl
 | (i,x) :: rest,cells,out,h=>by
  simp only [List.map_cons,mz] at h;simp only [List.map_cons,Instr.fill];split at h
  ·cases h
  ·rename_i off size hp;split at h
   ·cases h
   ·rename_i hc;rw [hp];simp only [kR];rw [if_neg (by simpa using hc)];have ih:=zJ ρ (place:=place) h;have e:=KQ ρ x.cells cells off 0;rw [<- ih];congr 1;rw [show off+0=off from rfl] at e;rw [<- e];rw [<- Array.foldl_toList];simp
end
section
variable {P:Program}{ρ:Env}{st:List It}
theorem bV {l m:List It} (h:∀y,y ∈ l ++ m->y.holds Φ X ρ a w):∀y,y ∈ l->y.holds Φ X ρ a w:=λy hy=>h y (List.mem_append_left _ hy)
theorem bi {l m:List It} (h:∀y,y ∈ l ++ m->y.holds Φ X ρ a w):∀y,y ∈ m->y.holds Φ X ρ a w:=λy hy=>h y (List.mem_append_right _ hy)
def boolT (P:Program) (t:TypeId):Bool:=match P.underlying t with
 | some .bool=>true
 | _=>false
def uL (P:Program) (op:BinOp) (t:TypeId):Atom->Atom->Option Atom
 | .ci k a,.ci k' b=>if k=k' then (match op with
   | .eql=>some (.cb (a == b))
   | .neq=>some (.cb (a != b))
   | .lss=>some (.cb (decide (a<b)))
   | .leq=>some (.cb (decide (a<=b)))
   | .gtr=>some (.cb (decide (a > b)))
   | .geq=>some (.cb (decide (a≥b)))
   | .add=>some (.ci k (k.wrap (a+b)))
   | .sub=>some (.ci k (k.wrap (a-b)))
   | .mul=>some (.ci k (k.wrap (a*b)))
   | _=>none) else none
 | .cb a,.cb b=>if boolT P t then (match op with
   | .eql=>some (.cb (a == b))
   | .neq=>some (.cb (!(a == b)))
   | _=>none) else none
 | _,_=>none
theorem ahu {x y:Atom}{u v:Operand} (h:uL P op t x y=some z) (w:World):(do eqGuard op t u v (x.ev ρ) (y.ev ρ);binOp op t (x.ev ρ) (y.ev ρ):Sem Value).run P w = .ok (z.ev ρ) w:=by
 have hg:∀p q:Value,(∀l,p≠.agg l)->p≠.nilIface->(eqGuard op t u v p q).run P w = .ok () w:=by intro p q h1 h2;unfold eqGuard;cases op <;> simp <;> cases p <;> simp_all
 unfold uL at h;split at h
 ·rename_i k m k' m';split at h
  ·rename_i hk;subst hk;simp only [Sem.run_bind,hg ((Atom.ci k m).ev ρ) _ (by intro l;simp [Atom.ev]) (by simp [Atom.ev]),Result.andThen_ok];cases op <;> simp at h <;> subst h <;> simp [Atom.ev,binOp,Op.intCmp,Op.intArith]
  ·cases h
 ·rename_i m m';split at h
  ·rename_i hb;have hu:P.underlying t=some .bool:=by
    unfold boolT at hb;split at hb
    ·assumption
    ·cases hb
   simp only [Sem.run_bind,hg ((Atom.cb m).ev ρ) _ (by intro l;simp [Atom.ev]) (by simp [Atom.ev]),Result.andThen_ok];have hd:∀(d:Nat) (p q:Bool),(Op.equalIn (d+1) t (.bool p) (.bool q)).run P w = .ok (p == q) w:=by intro d p q;simp [Op.equalIn,run_underlying hu]
   have he:∀p q:Bool,(Op.equal t (.bool p) (.bool q)).run P w = .ok (p == q) w:=by intro p q;exact hd 9999 p q
   cases op <;> simp at h <;> subst h <;> simp [Atom.ev,binOp,he]
  ·cases h
 ·cases h
def uM (op:UnOp):Atom->Option Atom
 | .cb b=>match op with
  | .not=>some (.cb (!b))
  | _=>none
 | .ci k z=>match op with
  | .neg=>some (.ci k (k.wrap (0-z)))
  | _=>none
 | _=>none
theorem ahv {op:UnOp}{x:Atom} (h:uM op x=some z) (w:World):(Op.unary op (x.ev ρ)).run P w = .ok (z.ev ρ) w:=by cases x <;> simp [uM] at h <;> cases op <;> simp at h <;> subst h <;> simp [Atom.ev,Op.unary,Op.intArith]
def partsOf (st:List It):List (Nat×Operand)->Option (List (Nat×C)×List It)
 | []=>some ([],[])
 | (i,x) :: r=>match val st x,partsOf st r with
  | some (.c y,n),some (ys,m)=>some ((i,y) :: ys,n ++ m)
  | _,_=>none
theorem zK:∀{l:List (Nat×Operand)}{ys:List (Nat×C)}{n:List It},partsOf st l=some (ys,n)->(∀y,y ∈ n->y.holds Φ X ρ a w)->(l.map λq=>(q.1,a.eval q.2))=ys.map λq=>(q.1,q.2.ev ρ)
 | [],ys,n,h,_=>by simp [partsOf] at h;rw [h.1];rfl
 | (i,x) :: r,ys,n,h,hl=>by
  simp only [partsOf] at h;split at h
  ·rename_i y n1 zs n2 h1 h2;simp at h;obtain ⟨rfl,rfl⟩:=h;have e1:=val_ok h1 (bV hl);have e2:=zK h2 (bi hl);simp only [List.map_cons,e2,e1];rfl
  ·cases h
def uN (P:Program) (st:List It) (t:TypeId) (parts:Array (Nat×Operand)):Option (C×List It):=
 match P.underlying t,zeroAt P t,partsOf st parts.toList with
 | some (.struct fields),some z,some (ys,n)=>match fields.toList.mapM (λf=>(P.info? f.type).map λi=>(f.offset,i.size)) with
  | some places=>(mz (places.toArray[·]?) z.cells (ys.map λq=>(q.1,q.2.cells))).map λl=>(.agg l,n)
  | none=>none
 | _,_,_=>none
theorem ahw {z:C} (h:zeroAt P t=some z) (ρ:Env):∃it v,P.info? t=some it∧it.zero=some v∧v=z.ev ρ:=by
 unfold zeroAt at h;cases hi:P.info? t with
 | none=>simp [hi] at h
 | some i=>
  cases hz:i.zero with
  | none=>simp [hi,hz] at h
  | some v=>simp [hi,hz] at h;exact ⟨i,v,rfl,hz,(zI h ρ).symm⟩
theorem ahx {parts:Array (Nat×Operand)}{x:C}{n:List It} (h:uN P st t parts=some (x,n)) (hl:∀y,y ∈ n->y.holds Φ X ρ a w) :
  (Instr.build t (parts.map λ(i,x)=>(i,a.eval x))).run P w = .ok (x.ev ρ) w:=by
 unfold uN at h;split at h
 ·rename_i fields z ys n' hu hz hp;split at h
  ·rename_i places hm;cases hf:mz (places.toArray[·]?) z.cells (ys.map λq=>(q.1,q.2.cells)) with
   | none=>rw [hf] at h;cases h
   | some l=>
    rw [hf] at h;simp only [Option.map_some,Option.some.injEq,Prod.mk.injEq] at h;obtain ⟨rfl,rfl⟩:=h;obtain ⟨it,v,h1,h2,h3⟩:=ahw hz ρ;refine run_build w t _ _ ?_;have e1:=zK hp hl;have e2:=zJ ρ hf;simp only [Program.built,h1,hu,h2,hm,h3,kR];rw [<- e2,<- e1];simp
  ·cases h
 ·cases h
def uO (P:Program) (t:TypeId) (cs:List Atom) (off:Nat):Option C:=match gV P t,dU P t with
 | some true,some n=>some (.agg ((cs.drop off).take n))
 | some false,_=>(cs[off]?).map .one
 | _,_=>none
theorem ahy {off:Nat}{y:C} (h:uO P t cs off=some y) (w:World):(part t (cs.map (Atom.ev ρ)).toArray off).run P w = .ok (y.ev ρ) w:=by
 unfold uO at h;split at h
 ·rename_i n ha hs;simp only [Option.some.injEq] at h;subst h;simp only [part,Sem.run_bind,gW ha,Result.andThen_ok];simp [C.ev,run_sizeOf hs]
 ·rename_i ha;cases hc:cs[off]? with
  | none=>simp [hc] at h
  | some x=>
   simp [hc] at h;subst h;simp [part,gW ha,hc,C.ev]
 ·cases h
def zL (P:Program) (st:List It):Op->Option (SV×List It)
 | .move x=>val st x
 | .assign x=>val st x
 | .pick c x y=>match val st c with
  | some (.c (.one (.cb b)),n)=>(val st (if b then x else y)).map λr=>(r.1,n ++ r.2)
  | _=>none
 | .extract x j=>match val st x with
  | some (.bJ l,n)=>(l[j]?).map λy=>(.c y,n)
  | _=>none
 | .fieldAddr s x f=>match val st x with
  | some (.c (.one (.ptr k o)),n)=>(rg P s f).map λoff=>(.c (.one (.ptr k (o+off))),n)
  | _=>none
 | .field s x f=>match val st x with
  | some (.c (.agg cs),n)=>(match P.underlying s with
   | some (.struct fs)=>match fs[f]? with
    | some fd=>(uO P fd.type cs fd.offset).map λy=>(.c y,n)
    | none=>none
   | _=>none)
  | _=>none
 | .load t x=>match val st x with
  | some (.c (.one (.ptr k o)),n)=>(mw P st t k o).map λr=>(.c r.1,n ++ r.2)
  | _=>none
 | .build t parts=>(uN P st t parts).map λr=>(.c r.1,r.2)
 | .binOp op t x y _=>match val st x,val st y with
  | some (.c (.one u),n),some (.c (.one v),m)=>(uL P op t u v).map λr=>(.c (.one r),n ++ m)
  | _,_=>none
 | .unOp op _ x=>match val st x with
  | some (.c (.one u),n)=>(uM op u).map λr=>(.c (.one r),n)
  | _=>none
 | .nilCheck x=>match val st x with
  | some (.c (.one (.ptr k o)),n)=>some (.c (.one (.ptr k o)),n)
  | _=>none
 | .indexAddr t x y=>match val st x,val st y with
  | some (.c (.one (.ptr k o)),n),some (.c (.one (.ci _ i)),m)=>(uK P t i).map λoff=>(.c (.one (.ptr k (o+off))),n ++ m)
  | _,_=>none
 | .makeFunc g first cap=>match g,first.toList,cap.toList with
  | .func f,[],[x]=>(match val st x with
   | some (.c (.one (.ptr k 0)),n)=>some (.c (.one (.mu f k)),n)
   | _=>none)
  | _,_,_=>none
 | _=>none
theorem pure_ok {v:SV}{n:List It} (h:zL P st o.op=some (v,n)) (hl:∀y,y ∈ n->y.holds Φ X ρ a w):(execOp a.eval o).run P w = .ok (.value (v.ev ρ)) w:=by
 unfold zL at h;unfold execOp;split at h <;> rename_i ho <;> simp only [ho]
 ·rename_i x;rw [<- val_ok h hl];simp
 ·rename_i x;rw [<- val_ok h hl];simp
 ·rename_i c x y;split at h
  ·rename_i b n1 hc;cases hv:val st (if b then x else y) with
   | none=>simp [hv] at h
   | some r=>
    simp [hv] at h;obtain ⟨rfl,rfl⟩:=h;have e1:=val_ok hc (bV hl);have e2:=val_ok (v:=r.1) (l:=r.2) hv (bi hl);rw [e1];cases b <;> simp_all [SV.ev,C.ev,Atom.ev,asBool]
  ·cases h
 ·rename_i x j;split at h
  ·rename_i l n1 hc;cases hj:l[j]? with
   | none=>simp [hj] at h
   | some y=>
    simp [hj] at h;obtain ⟨rfl,rfl⟩:=h;rw [val_ok hc hl];simp [SV.ev,Instr.extract,hj]
  ·cases h
 ·rename_i s x f;split at h
  ·rename_i k o n1 hc;cases hf:rg P s f with
   | none=>simp [hf] at h
   | some off=>
    simp [hf] at h;obtain ⟨rfl,rfl⟩:=h;rw [val_ok hc hl];have:=GG (ρ:=ρ) (w:=w) (k:=k) (o:=o) hf;simp [SV.ev,C.ev,this]
  ·cases h
 ·rename_i s x f;split at h
  ·rename_i cs n1 hc;split at h
   ·rename_i fs hu;split at h
    ·rename_i fd hfd;cases hp:uO P fd.type cs fd.offset with
     | none=>simp [hp] at h
     | some y=>
      simp [hp] at h;obtain ⟨rfl,rfl⟩:=h;rw [val_ok hc hl];have:=ahy (ρ:=ρ) hp w;simp [SV.ev,Instr.field,run_underlying hu,hfd,asAgg,this,show C.ev ρ (.agg cs) = .agg (cs.map (Atom.ev ρ)).toArray from rfl]
    ·cases h
   ·cases h
  ·cases h
 ·rename_i t x;split at h
  ·rename_i k o n1 hc;cases hf:mw P st t k o with
   | none=>simp [hf] at h
   | some r=>
    simp [hf] at h;obtain ⟨rfl,rfl⟩:=h;rw [val_ok hc (bV hl)];have:=KP (x:=r.1) (l:=r.2) hf (bi hl);simp [SV.ev,C.ev,this]
  ·cases h
 ·rename_i t parts;cases hf:uN P st t parts with
  | none=>simp [hf] at h
  | some r=>
   simp [hf] at h;obtain ⟨rfl,rfl⟩:=h;have:=ahx (x:=r.1) (n:=r.2) hf hl;simp only [Sem.run_bind,this,Result.andThen_ok];rfl
 ·rename_i op t x y yt;split at h
  ·rename_i u n1 v n2 hx hy;cases hf:uL P op t u v with
   | none=>simp [hf] at h
   | some r=>
    simp [hf] at h;obtain ⟨rfl,rfl⟩:=h;rw [val_ok hx (bV hl),val_ok hy (bi hl)];have:=ahu (ρ:=ρ) (u:=x) (v:=y) hf w;simp only [SV.ev,C.ev,Sem.run_bind,this,Result.andThen_ok];rfl
  ·cases h
 ·rename_i op t x;split at h
  ·rename_i u n1 hx;cases hf:uM op u with
   | none=>simp [hf] at h
   | some r=>
    simp [hf] at h;obtain ⟨rfl,rfl⟩:=h;rw [val_ok hx hl];have:=ahv (P:=P) (ρ:=ρ) hf w;simp [SV.ev,C.ev,this]
  ·cases h
 ·rename_i x;split at h
  ·rename_i k o n1 hx;simp only [Option.some.injEq,Prod.mk.injEq] at h;obtain ⟨rfl,rfl⟩:=h;rw [val_ok hx hl];simp [SV.ev,C.ev,Atom.ev]
  ·cases h
 ·rename_i t x y;split at h
  ·rename_i k o n1 kd i n2 hx hy;cases hf:uK P t i with
   | none=>simp [hf] at h
   | some off=>
    simp [hf] at h;obtain ⟨rfl,rfl⟩:=h;rw [val_ok hx (bV hl),val_ok hy (bi hl)];have:=aht (ρ:=ρ) (w:=w) (k:=k) (o:=o) (kd:=kd) hf;simp only [SV.ev,C.ev,Sem.run_bind,this,Result.andThen_ok];rfl
  ·cases h
 ·rename_i fn first cap
  split at h
  case h_2=>cases h
  rename_i f x e1 e2;split at h
  case h_2=>cases h
  rename_i k n1 hx;simp only [Option.some.injEq,Prod.mk.injEq] at h;obtain ⟨rfl,rfl⟩:=h;have e3:first = #[]:=by apply Array.ext';simpa using e1
  have e4:cap = #[x]:=by apply Array.ext';simpa using e2
  subst e3 e4;have:=val_ok hx hl;simp [Instr.makeFunc,this,SV.ev,C.ev,Atom.ev]
 ·cases h
def rG (n:Nat) (l:List Atom):List Atom:=(List.range n).map λj=>l.getD (j % l.length) .un
def zM (P:Program) (st:List It):Op->Option (List Atom×TypeId×Option Nat×List It)
 | .box t x=>match val st x with
  | some (.c y,n)=>some (y.cells,t,none,n)
  | _=>none
 | .alloc t=>(zeroAt P t).map λz=>(z.cells,t,none,[])
 | .buildSlice t len parts=>match P.underlying t,partsOf st parts.toList with
  | some (.slice e),some (ys,n)=>match dU P e,zeroAt P e with
   | some size,some z=>if len*size<=16777216∧len*size≠0∧z.cells.length≠0 then
     (mz (λi=>some (i*size,size)) (rG (len*size) z.cells) (ys.map λq=>(q.1,q.2.cells))).map λl=>(l,e,some len,n) else none
   | _,_=>none
  | _,_=>none
 | _=>none
def newAtom (k:Nat):Option Nat->Atom
 | none=>.ptr k 0
 | some n=>.row k n
theorem ahz {n:List It} (h:zM P st o.op=some (cs,t,r,n)) (hl:∀y,y ∈ n->y.holds Φ X ρ a w) (ρ':Env) (k:Nat) (hk:ρ'.g k=some w.heap.size) :
  (execOp a.eval o).run P w = .ok (.value ((newAtom k r).ev ρ')) (w.alloc (.cells (cs.map (Atom.ev ρ)).toArray t)):=by
 unfold zM at h;unfold execOp;split at h <;> rename_i ho <;> simp only [ho]
 ·rename_i t' x;split at h
  ·rename_i y n1 hx;simp at h;obtain ⟨rfl,rfl,rfl,rfl⟩:=h;rw [val_ok hx hl];simp [Instr.box,newVar,newRow,SV.ev,kR,newAtom,Atom.ev,hk]
  ·cases h
 ·rename_i t';cases hz:zeroAt P t' with
  | none=>simp [hz] at h
  | some z=>
   simp [hz] at h;obtain ⟨rfl,rfl,rfl,rfl⟩:=h;simp [Instr.alloc,ui hz ρ,newVar,newRow,kR,newAtom,Atom.ev,hk]
 ·rename_i t' len parts;split at h
  ·rename_i e ys n1 hu hp;split at h
   ·rename_i size z hs hz;split at h
    ·rename_i hc;obtain ⟨h1,h2,h3⟩:=hc;cases hf:mz (λi=>some (i*size,size)) (rG (len*size) z.cells) (ys.map λq=>(q.1,q.2.cells)) with
     | none=>simp [hf] at h
     | some l=>
      simp [hf] at h;obtain ⟨rfl,rfl,rfl,rfl⟩:=h;have e1:=zK hp hl;have e2:=zJ ρ hf;have e3:((Array.range (len*size)).map λj=>((z.cells.map (Atom.ev ρ)).toArray)[j % (z.cells.map (Atom.ev ρ)).toArray.size]!)=((rG (len*size) z.cells).map (Atom.ev ρ)).toArray:=by
       apply Array.ext
       ·simp [rG]
       ·intro j hj1 hj2;have hlt:j % z.cells.length<z.cells.length:=Nat.mod_lt _ (by omega);simp [rG,List.getElem!_eq_getElem?_getD,hlt]
      have e4:(parts.map λ(q:Nat×Operand)=>(q.1,a.eval q.2)).toList=ys.map λq=>(q.1,q.2.ev ρ):=by rw [<- e1];simp
      have e5:¬(len*size > 2 ^ 24):=by omega
      simp only [Instr.buildSlice,Sem.run_bind,run_underlying hu,Result.andThen_ok,run_sizeOf hs];rw [Sem.run_ite,if_neg e5];simp only [if_neg h2,Sem.run_bind,ui hz ρ,Result.andThen_ok,kR,Sem.run_pure];rw [show (parts.map λx=>match x with | (i,x)=>(i,a.eval x))=parts.map λ(q:Nat×Operand)=>(q.1,a.eval q.2) from rfl,e4,e3,e2];simp [newRow,newAtom,Atom.ev,hk]
    ·cases h
   ·cases h
  ·cases h
 ·cases h
end
structure Eff where
 need:List It
 add:List It
 kill:List Key
 deriving Inhabited
variable {es:List Eff}
inductive Sh where
 | b | s | i | t | p | nk | fv | lit (a:Atom)
inductive cC where
 | one (x:Sh) | agg (l:List Sh)
inductive Arg where
 | fact (p:Nat) | lit (a:Atom) | row (sz:Nat) (ps:List Nat) | parts (sh:cC) (fs:List (Nat×Nat×Nat)) | any
instance (n : Nat) : OfNat Arg n := ⟨.fact n⟩
structure Out where
 sh:cC
 fs:List (Nat×Nat×Nat)
variable {os:List Out}
inductive Mode where
 | call (bJ:Bool) | quiet (m:Op->Option (List Operand)) | dR (J:List Nat) (bJ:Bool) | gI (J:List Nat) (m:Op->Option (List Operand)) | loose (J:List Nat) (j i:Nat) (m:Op->Option (List Operand))
 | joint (J:List Nat) (p:Nat) (m:Op->Option (List Operand)) | put (J:List Nat) (j i p:Nat) (m:Op->Option (List Operand)) | ot (J:List Nat) (j i p:Nat) (m:Op->Option (List Operand)) | iK (J:List Nat) (j i p:Nat) (m:Op->Option (List Operand))
 | eM (J:List Nat) (j:Nat) | rj (J:List Nat) | mT (J:List Nat) (j i:Nat) | du (sz:Nat) | fresh (J:List Nat) (m:Op->Option (List Operand)) | jj (J:List Nat) (m:Op->Option (List Operand))
instance : Coe Bool Mode := ⟨Mode.call⟩
structure Site where
 f:FuncId
 args:List Arg
 outs:List Out
 md:Mode
def Site.bJ (s:Site):Bool:=match s.md with
 | .call t=>t
 | .dR _ t=>t
 | _=>false
def Site.q (s:Site):Option (Op->Option (List Operand)):=match s.md with
 | .quiet m=>some m
 | .gI _ m=>some m
 | .fresh _ m=>some m
 | _=>none
def Site.lz (s:Site):Option Unit:=match s.md with
 | .call _=>none
 | .dR _ _=>none
 | _=>some ()
def Site.J (s:Site):List Nat:=match s.md with
 | .dR J _=>J
 | .gI J _=>J
 | .loose J j _ _=>j :: J
 | .joint J _ _=>J
 | .put J j _ _ _=>j :: J
 | .ot J j _ _ _=>j :: J
 | .iK J j _ _ _=>j :: J
 | .eM J j=>j :: J
 | .rj J=>J
 | .mT J j _=>j :: J
 | .fresh J _=>J
 | .jj J _=>J
 | _=>[]
variable {s:Site}{rest ss:List Site}
def Sh.is:Sh->Value->Prop
 | .b,v=>∃x,v = .bool x
 | .s,v=>∃p n c,v = .slice p n c
 | .i,v=>∃z,v = .int .i64 z
 | .t,v=>∃x,v = .string x
 | .p,v=>∃x,v = .pointer x
 | .nk,v=>∃k z,v = .int k z
 | .fv,v=>∃f ca,v = .func (.func f) #[] ca
 | .lit a,v=>v=a.ev da
def iC:List Sh->List Value->Prop
 | [],[]=>True
 | x :: xs,v :: vs=>x.is v∧iC xs vs
 | _,_=>False
def cC.is:cC->Value->Prop
 | .one x,v=>x.is v∧∀l,v≠.agg l
 | .agg l,v=>∃vs:List Value,v = .agg vs.toArray∧iC l vs
def cellsOf (v:Value):List Value:=v.cells.toList
def bS (o l:Nat) (v:Value):Value:=if l=0 then v else if l=1 then (cellsOf v).getD o undef else .agg (((cellsOf v).drop o).take l).toArray
def bM (o l:Nat) (x:C):C:=if l=0 then x else if l=1 then .one (x.cells.getD o .un) else .agg ((x.cells.drop o).take l)
theorem nT (o l:Nat) (x:C) (ρ:Env):(bM o l x).ev ρ=bS o l (x.ev ρ):=by
 have e:cellsOf (x.ev ρ)=x.cells.map (Atom.ev ρ):=by simp only [cellsOf,kR]
 unfold bM bS;rw [e];split
 ·rfl
 ·split
  ·simp only [C.ev,List.getD_eq_getElem?_getD,List.getElem?_map];cases x.cells[o]? <;> rfl
  ·simp [C.ev]
section
variable (Φ:Nat->World->Value->Prop)
def rowOk (X:Nat->Prop) (w:World) (g sz:Nat):Nat->List Nat->Prop
 | _,[]=>True
 | o,p :: ps=>(∃l:List Value,l.length=sz∧(∀(c:Nat) (u:Value),l[c]?=some u->w.cell? ⟨g,o+c,none⟩=some u)∧∀w1,Off X w w1->Φ p w1 (.agg l.toArray))∧rowOk X w g sz (o+sz) ps
def Arg.ok (X:Nat->Prop) (w:World):Arg->Value->Prop
 | .fact p,v=>∀w1,Off X w w1->Φ p w1 v
 | .lit a,v=>v=a.ev da
 | .row sz ps,v=>∃g,v = .slice (some ⟨g,0,none⟩) ps.length ps.length∧rowOk Φ X w g sz 0 ps
 | .parts sh fs,v=>sh.is v∧∀q,q ∈ fs->∀w1,Off X w w1->Φ q.2.2 w1 (bS q.1 q.2.1 v)
 | .any,_=>True
def cX (X:Nat->Prop) (w:World):List Arg->List Value->Prop
 | [],[]=>True
 | x :: xs,v :: vs=>x.ok Φ X w v∧cX X w xs vs
 | _,_=>False
def cG (X:Nat->Prop) (w:World):List Out->List Value->Prop
 | [],[]=>True
 | x :: xs,v :: vs=>(x.sh.is v∧∀q,q ∈ x.fs->∀w1,Off X w w1->Φ q.2.2 w1 (bS q.1 q.2.1 v))∧cG X w xs vs
 | _,_=>False
def rH (P:Program) (m:Op->Option (List Operand)) (s:Site):Prop:=∀(X:Nat->Prop) (w:World) (a:Act) (o:Oper) (xs:List Operand),(∀k,X k->k<w.heap.size)->m o.op=some xs->cX Φ X w s.args (xs.map a.eval)->
 ∃u w',(execOp a.eval o).run P w = .ok (.value u) w'∧w.grownBy w' none∧cG Φ X w' s.outs [u]
def rI (P:Program) (s:Site):Prop:=∀(X:Nat->Prop) (w:World) (vs:List Value),(∀k,X k->k<w.heap.size)->cX Φ X w s.args vs->
 Calls P s.f vs.toArray w λe w'=>w.grownBy w' none∧∃us:List Value,e = .returned (if s.bJ then .tuple us.toArray else us.headD undef)∧cG Φ X w' s.outs us
def KR (P:Program) (i:Nat) (m:Op->Option (List Operand)) (s:Site):Prop:=∀(X L:Nat->Prop) (w:World) (a:Act) (o:Oper) (xs:List Operand),(∀k,X k->k<w.heap.size)->(∀k,L k->k<w.heap.size)->(∀k,L k->¬X k)->m o.op=some xs->cX Φ X w s.args (xs.map a.eval)->
 (∀x g,xs[i]?=some x->blk (a.eval x)=some g->L g)->cX Φ (λk=>X k∨L k) w (s.args.set i .any) (xs.map a.eval)->
 ∃u w' r,(execOp a.eval o).run P w = .ok (.value u) w'∧w.grownBy w' r∧(∀g,r=some g->L g)∧Kp w w'∧(∀g o v,(∀h,r=some h->g≠h)->w.cell? ⟨g,o,none⟩=some v->w.frozen? ⟨g,o,none⟩=false->w'.cell? ⟨g,o,none⟩=some v∧w'.frozen? ⟨g,o,none⟩=false)∧(∀g,blk u=some g->g<w'.heap.size∧(L g∨w.heap.size<=g))∧cG Φ X w' s.outs [u]
def KS (P:Program) (p:Nat) (m:Op->Option (List Operand)) (s:Site):Prop:=∀(X:Nat->Prop) (w:World) (a:Act) (o:Oper) (xs:List Operand),(∀k,X k->k<w.heap.size)->m o.op=some xs->cX Φ X w s.args (xs.map a.eval)->
 ∃u w',(execOp a.eval o).run P w = .ok (.value u) w'∧w.grownBy w' none∧cG Φ X w' s.outs [u]∧∀w1,Off X w' w1->Φ p w1 (.agg (xs.map a.eval ++ [u]).toArray)
def ahA (P:Program) (i p:Nat) (m:Op->Option (List Operand)) (s:Site):Prop:=∀(X L:Nat->Prop) (w:World) (a:Act) (o:Oper) (xs:List Operand),(∀k,X k->k<w.heap.size)->(∀k,L k->k<w.heap.size)->(∀k,L k->¬X k)->m o.op=some xs->cX Φ X w s.args (xs.map a.eval)->
 (∀w1,Off X w w1->Φ p w1 (.agg (xs.dropLast.map a.eval).toArray))->(∀x g,xs.dropLast[i]?=some x->blk (a.eval x)=some g->L g)->
 ∃w' r,(execOp a.eval o).run P w = .ok .skip w'∧w.grownBy w' r∧(∀g,r=some g->L g)∧Kp w w'∧(∀g o v,(∀h,r=some h->g≠h)->w.cell? ⟨g,o,none⟩=some v->w.frozen? ⟨g,o,none⟩=false->w'.cell? ⟨g,o,none⟩=some v∧w'.frozen? ⟨g,o,none⟩=false) ∧
  ∀x,xs.dropLast[i]?=some x->cG Φ X w' s.outs [a.eval x]
def ahB (P:Program) (i p:Nat) (m:Op->Option (List Operand)) (s:Site):Prop:=∀(X L:Nat->Prop) (w:World) (a:Act) (o:Oper) (xs:List Operand),(∀k,X k->k<w.heap.size)->(∀k,L k->k<w.heap.size)->(∀k,L k->¬X k)->m o.op=some xs->cX Φ X w s.args (xs.map a.eval)->
 (∀w1,Off X w w1->Φ p w1 (.agg (xs.dropLast.map a.eval).toArray))->(∀x g,xs.dropLast[i]?=some x->blk (a.eval x)=some g->L g)->cX Φ (λk=>X k∨L k) w (s.args.set i .any) (xs.map a.eval)->
 ∃w' r,(execOp a.eval o).run P w = .ok .skip w'∧w.grownBy w' r∧(∀g,r=some g->L g)∧Kp w w'∧(∀g o v,(∀h,r=some h->g≠h)->w.cell? ⟨g,o,none⟩=some v->w.frozen? ⟨g,o,none⟩=false->w'.cell? ⟨g,o,none⟩=some v∧w'.frozen? ⟨g,o,none⟩=false) ∧
  ∀x,xs.dropLast[i]?=some x->cG Φ X w' s.outs [a.eval x]
def KT (P:Program) (i p:Nat) (m:Op->Option (List Operand)) (s:Site):Prop:=∀(X:Nat->Prop) (w:World) (a:Act) (o:Oper) (xs:List Operand),(∀k,X k->k<w.heap.size)->m o.op=some xs->cX Φ X w s.args (xs.map a.eval)->(∀w1,Off X w w1->Φ p w1 (.agg (xs.map a.eval).toArray))->
 ∃u w',(execOp a.eval o).run P w = .ok (.value u) w'∧w.grownBy w' none∧∀x,xs[i]?=some x->cG Φ (λk=>X k∨blk (a.eval x)=some k) w' s.outs [u]
def eT (P:Program) (s:Site):Prop:=∀(X:Nat->Prop) (w:World) (vs:List Value),(∀k,X k->k<w.heap.size)->cX Φ X w s.args vs->
 Calls P s.f vs.toArray w λe w'=>w.grownBy w' none∧∃u:Value,e = .returned u∧cG Φ X w' s.outs [u]∧∀g,blk u=some g->w.heap.size<=g∧g<w'.heap.size
def zO (P:Program) (s:Site):Prop:=∀(X:Nat->Prop) (w:World) (u:Value) (vs:List Value),(∀k,X k->k<w.heap.size)->cX Φ X w s.args (u :: vs)->
 ∃ca,u = .func (.func s.f) #[] ca∧Calls P s.f (vs.toArray ++ ca) w λe w'=>w.grownBy w' none∧∃us:List Value,e = .returned (if s.bJ then .tuple us.toArray else us.headD undef)∧cG Φ X w' s.outs us
def zP (P:Program) (sz:Nat) (s:Site):Prop:=∀(X:Nat->Prop) (w:World) (B:Nat) (l vs:List Value),(∀k,X k->k<w.heap.size)->¬X B->B<w.heap.size->l.length=sz->(∀(i:Nat) (u:Value),l[i]?=some u->w.cell? ⟨B,i,none⟩=some u)->cX Φ X w s.args (.agg l.toArray :: vs)->
 Calls P s.f (vs ++ [Value.pointer (some ⟨B,0,none⟩)]).toArray w λe w'=>w.grownBy w' none∧∃u:Value,e = .returned u∧cG Φ (λ_=>True) w' s.outs [u]
def zQ (P:Program) (i:Nat) (s:Site):Prop:=∀(X L:Nat->Prop) (w:World) (vs:List Value),(∀k,X k->k<w.heap.size)->(∀k,L k->k<w.heap.size)->(∀k,L k->¬X k)->cX Φ X w s.args vs->
 (∀x g,vs[i]?=some x->blk x=some g->L g)->
 Calls P s.f vs.toArray w λe w'=>w.grownBy w' none∧∃u:Value,e = .returned u∧cG Φ X w' s.outs [u]∧∀g,blk u=some g->g<w'.heap.size∧(L g∨w.heap.size<=g)
def KU (P:Program) (m:Op->Option (List Operand)) (s:Site):Prop:=∀(X:Nat->Prop) (w:World) (a:Act) (o:Oper) (xs:List Operand),(∀k,X k->k<w.heap.size)->m o.op=some xs->cX Φ X w s.args (xs.map a.eval)->
 ∃u w',(execOp a.eval o).run P w = .ok (.value u) w'∧w.grownBy w' none∧∀Y:Nat->Prop,cG Φ Y w' s.outs [u]
def aj (P:Program) (s:Site):Prop:=match s.md with
 | .jj _ m=>KU Φ P m s
 | .mT _ _ i=>zQ Φ P i s
 | .rj _=>zO Φ P s
 | .du sz=>zP Φ P sz s
 | .eM _ _=>eT Φ P s
 | .call _=>rI Φ P s
 | .dR _ _=>rI Φ P s
 | .quiet m=>rH Φ P m s
 | .gI _ m=>rH Φ P m s
 | .fresh _ m=>rH Φ P m s
 | .loose _ _ i m=>KR Φ P i m s
 | .joint _ p m=>KS Φ P p m s
 | .put _ _ i p m=>ahA Φ P i p m s
 | .ot _ _ i p m=>ahB Φ P i p m s
 | .iK _ _ i p m=>KT Φ P i p m s
end
def KV:Value->Bool | .bool b=>b | _=>false
def asS:Value->Option Addr×Nat×Nat | .slice p n c=>(p,n,c) | _=>(none,0,0)
def KW:Value->Int | .int _ z=>z | _=>0
def KX:Value->ByteArray | .string s=>s | _=>⟨#[]⟩
def asN:Value->IntKind×Int | .int k z=>(k,z) | _=>(.i64,0)
def KY:Value->FuncId×Array Value | .func (.func f) _ ca=>(f,ca) | _=>(0,#[])
def asP:Value->Option Addr | .pointer a=>a | _=>none
def Env.put (ρ:Env) (k:Nat) (l:List Value):Env:=
 ⟨λj c=>if j=k then KV (l.getD c undef) else ρ.b j c,λj c=>if j=k then asS (l.getD c undef) else ρ.s j c,
  λj c=>if j=k then KW (l.getD c undef) else ρ.i j c,λj c=>if j=k then KX (l.getD c undef) else ρ.t j c,λj c=>if j=k then asP (l.getD c undef) else ρ.p j c,λj c=>if j=k then asN (l.getD c undef) else ρ.nk j c,ρ.g,ρ.o,λj c=>if j=k then KY (l.getD c undef) else ρ.v j c⟩
def Env.box (ρ:Env) (k g:Nat):Env:={ ρ with g:=λj=>if j=k then some g else ρ.g j }
variable {ρ:Env}
theorem nU {l:List Value} (x:Atom) (h:x.st≠some k):x.ev (ρ.put k l)=x.ev ρ:=by cases x <;> simp_all [Atom.ev,Atom.st,Env.put]
theorem KZ {g:Nat} (x:Atom) (h:x.st≠some k):x.ev (ρ.box k g)=x.ev ρ:=by cases x <;> simp_all [Atom.ev,Atom.st,Env.box]
def Sh.atom (k c:Nat):Sh->Atom
 | .b=>.b k c
 | .s=>.s k c
 | .i=>.i k c
 | .t=>.t k c
 | .p=>.p k c
 | .nk=>.nk k c
 | .fv=>.fv k c
 | .lit a=>a
def Sh.good:Sh->Bool
 | .lit a=>a.st.isNone
 | _=>true
def mA (k:Nat):Nat->List Sh->List Atom
 | _,[]=>[]
 | c,x :: xs=>x.atom k c :: mA k (c+1) xs
def cC.comp (k c:Nat):cC->C
 | .one x=>.one (x.atom k c)
 | .agg l=>.agg (mA k c l)
def cC.len:cC->Nat
 | .one _=>1
 | .agg l=>l.length
def cC.good:cC->Bool
 | .one x=>x.good
 | .agg l=>l.all Sh.good
def mB (k:Nat):Nat->List Out->List C
 | _,[]=>[]
 | c,o :: os=>o.sh.comp k c :: mB k (c+o.sh.len) os
def facts (k:Nat):Nat->List Out->List It
 | _,[]=>[]
 | c,o :: os=>o.fs.map (λq=>.fact (bM q.1 q.2.1 (o.sh.comp k c)) q.2.2) ++ facts k (c+o.sh.len) os
def zT (J:List Nat):It->It
 | .fact x p=>.held J x p
 | y=>y
def fa (J:List Nat) (k:Nat) (os:List Out):List It:=if J = [] then facts k 0 os else (facts k 0 os).map (zT J)
theorem rJ {a:Atom} (h:a.st=none) (ρ ρ':Env):a.ev ρ=a.ev ρ':=by cases a <;> simp_all [Atom.st,Atom.ev]
theorem Sh.ev {x:Sh} (h:x.is v) (hg:x.good=true){c:Nat}{l:List Value} (hl:l[c]?=some v):(x.atom k c).ev (ρ.put k l)=v:=by
 cases x <;> simp only [Sh.is] at h
 ·obtain ⟨x,rfl⟩:=h;simp [Sh.atom,Atom.ev,Env.put,hl,KV]
 ·obtain ⟨p,n,m,rfl⟩:=h;simp [Sh.atom,Atom.ev,Env.put,hl,asS]
 ·obtain ⟨x,rfl⟩:=h;simp [Sh.atom,Atom.ev,Env.put,hl,KW]
 ·obtain ⟨x,rfl⟩:=h;simp [Sh.atom,Atom.ev,Env.put,hl,KX]
 ·obtain ⟨x,rfl⟩:=h;simp [Sh.atom,Atom.ev,Env.put,hl,asP]
 ·obtain ⟨x,y,rfl⟩:=h;simp [Sh.atom,Atom.ev,Env.put,hl,asN]
 ·obtain ⟨x,y,rfl⟩:=h;simp [Sh.atom,Atom.ev,Env.put,hl,KY]
 ·rw [h];exact rJ (by simpa [Sh.good,Sh.atom] using hg) _ _
theorem iC.ev {ρ:Env}{k:Nat}{l:List Value}:∀{xs:List Sh}{vs:List Value}{c:Nat},iC xs vs->xs.all Sh.good=true->(∀j v,vs[j]?=some v->l[c+j]?=some v)->(mA k c xs).map (Atom.ev (ρ.put k l))=vs
 | [],[],_,_,_,_=>rfl
 | x :: xs,v :: vs,c,h,hg,hl=>by simp only [List.all_cons,Bool.and_eq_true] at hg;simp only [mA,List.map_cons];rw [Sh.ev h.1 hg.1 (by simpa using hl 0 v rfl),iC.ev h.2 hg.2 (λj u hj=>by rw [show c+1+j=c+(j+1) by omega];exact hl (j+1) u (by simpa using hj))]
 | [],_ :: _,_,h,_,_=>h.elim
 | _ :: _,[],_,h,_,_=>h.elim
theorem iC.length:∀{xs:List Sh}{vs:List Value},iC xs vs->vs.length=xs.length
 | [],[],_=>rfl
 | _ :: _,_ :: _,h=>by simp [iC.length h.2]
 | [],_ :: _,h=>h.elim
 | _ :: _,[],h=>h.elim
theorem ahC  (h:∀l,v≠.agg l):cellsOf v = [v]:=by cases v <;> simp_all [cellsOf,Value.cells]
theorem cC.ev {x:cC}{v:Value} (h:x.is v) (hg:x.good=true){ρ:Env}{k c:Nat}{l:List Value} (hl:∀j u,(cellsOf v)[j]?=some u->l[c+j]?=some u):(x.comp k c).ev (ρ.put k l)=v∧(cellsOf v).length=x.len:=by
 cases x with
 | one x=>
  have e:=ahC h.2;rw [e] at hl ⊢;exact ⟨Sh.ev h.1 hg (by simpa using hl 0 v rfl),rfl⟩
 | agg xs=>
  obtain ⟨vs,rfl,h⟩:=h;simp only [cC.comp,C.ev,cellsOf,Value.cells] at hl ⊢;rw [iC.ev h hg (λj u hj=>hl j u hj)];exact ⟨rfl,iC.length h⟩
variable {sh:cC}
def nV (a:Atom):Sh->Bool
 | .b=>match a with | .b _ _ | .cb _=>true | _=>false
 | .s=>match a with | .s _ _ | .nl | .row _ _=>true | _=>false
 | .i=>match a with | .i _ _ | .ci .i64 _=>true | _=>false
 | .t=>match a with | .t _ _ | .cs _=>true | _=>false
 | .p=>match a with | .p _ _ | .ptr _ _=>true | _=>false
 | .nk=>match a with | .nk _ _ | .i _ _ | .ci _ _=>true | _=>false
 | .fv=>match a with | .fv _ _ | .fn _=>true | _=>false
 | .lit b=>a.beq b && b.st.isNone
def allFit:List Atom->List Sh->Bool
 | [],[]=>true
 | a :: l,x :: xs=>nV a x && allFit l xs
 | _,_=>false
def pH:C->cC->Bool
 | .one a,.one x=>nV a x
 | .agg l,.agg xs=>allFit l xs
 | _,_=>false
theorem zU {a:Atom}{x:Sh} (h:nV a x=true) (ρ:Env):x.is (a.ev ρ):=by
 cases x with
 | lit b=>
  simp only [nV,Bool.and_eq_true,Option.isNone_iff_eq_none] at h;rw [Sh.is,Atom.dK h.1];exact rJ h.2 _ _
 | _=>simp only [nV] at h;split at h <;> first | exact ⟨_,rfl⟩ | exact ⟨_,_,rfl⟩ | exact ⟨_,_,_,rfl⟩ | cases h
theorem La (ρ:Env):∀{l:List Atom}{xs:List Sh},allFit l xs=true->iC xs (l.map (Atom.ev ρ))
 | [],[],_=>trivial
 | a :: l,x :: xs,h=>by simp only [allFit,Bool.and_eq_true] at h;exact ⟨zU h.1 ρ,La ρ h.2⟩
 | [],_ :: _,h=>by simp [allFit] at h
 | _ :: _,[],h=>by simp [allFit] at h
theorem uR {c:C}{x:cC} (h:pH c x=true) (ρ:Env):x.is (c.ev ρ):=by
 cases c <;> cases x <;> simp only [pH,Bool.false_eq_true] at h
 ·rename_i a x;exact ⟨zU h ρ,λl=>by cases a <;> simp [C.ev,Atom.ev,undef]⟩
 ·exact ⟨_,rfl,La ρ h⟩
section
theorem gP {X:Nat->Prop}{w:World}{ρ:Env}{k:Nat}{l:List Value}:∀{os:List Out}{us:List Value}{c:Nat},cG Φ X w os us->os.all (λo=>o.sh.good)=true->(∀j u,(us.flatMap cellsOf)[j]?=some u->l[c+j]?=some u)->
  (mB k c os).map (C.ev (ρ.put k l))=us∧∀y,y ∈ facts k c os->∃x p,y = .fact x p∧∀w1,Off X w w1->Φ p w1 (x.ev (ρ.put k l))
 | [],[],_,_,_,_=>⟨rfl,λy hy=>by cases hy⟩
 | o :: os,u :: us,c,h,hg,hl=>by
  simp only [List.all_cons,Bool.and_eq_true] at hg;obtain ⟨⟨h1,h2⟩,h3⟩:=h;obtain ⟨e1,e2⟩:=cC.ev (ρ:=ρ) (k:=k) (c:=c) (l:=l) h1 hg.1 (λj v hj=>hl j v (by simp only [List.flatMap_cons];rw [List.getElem?_append_left (List.getElem?_eq_some_iff.1 hj).1];exact hj));have ih:=gP (ρ:=ρ) (k:=k) (l:=l) (c:=c+o.sh.len) h3 hg.2 (λj v hj=>by
   have:=hl (o.sh.len+j) v (by
    simp only [List.flatMap_cons];rw [List.getElem?_append_right (by omega),e2,show o.sh.len+j-o.sh.len=j by omega];exact hj)
   rwa [<- Nat.add_assoc] at this)
  simp only [mB,List.map_cons,e1,ih.1,facts,true_and];intro y hy;rcases List.mem_append.1 hy with hy | hy
  ·obtain ⟨q,hq,rfl⟩:=List.mem_map.1 hy;exact ⟨_,q.2.2,rfl,λw1 hw=>by rw [nT,e1];exact h2 q hq w1 hw⟩
  ·exact ih.2 y hy
 | [],_ :: _,_,h,_,_=>h.elim
 | _ :: _,[],_,h,_,_=>h.elim
end
def pI (P:Program) (Φ:Nat->World->Value->Prop) (X:Nat->Prop) (ops:Array Oper) (Q:Exit->Act->World->Prop) (W:World) (n i k:Nat) (e:Eff):Prop:=
 ∀(ρ:Env) (a:Act) (w:World) (K:Act->World->Prop),Good X W n ρ a w->(∀x,x ∈ e.need->x.holds Φ X ρ a w)->
  (∀ρ' a' w',Good X W n ρ' a' w'->(∀x,x ∈ e.add->x.holds Φ X ρ' a' w')->(∀x:It,x.holds Φ X ρ a w->(∀y,y ∈ e.kill->x.hit y=false)->k ∉ x.sts->x.holds Φ X ρ' a' w')->K a' w')->wpOp P ops Q i K a w
def cQ:Option Tmp->List Key
 | some d=>[.slot d]
 | none=>[]
def dH (d:Option Tmp) (v:SV):List It:=match d with
 | some d=>[.slot d v]
 | none=>[]
section
variable {P:Program}{ops:Array Oper}{Q:Exit->Act->World->Prop}
theorem kV  (t:Nat) (h:∀y,y ∈ cQ d->(It.slot t (.c (.one .un))).hit y=false):(a.put d v).tmps[t]?=a.tmps[t]?:=by
 cases d with
 | none=>rfl
 | some d=>
  have:=h (.slot d) (by simp [cQ]);simp only [It.hit,beq_eq_false_iff_ne] at this;simp [Act.put,Array.getElem?_setIfInBounds_ne (Ne.symm this)]
theorem kW {v:SV} (hd:∀x,d=some x->x<a.tmps.size):∀x,x ∈ dH d v->x.holds Φ X ρ (a.put d (v.ev ρ)) w:=by
 intro x hx;cases d with
 | none=>cases hx
 | some d=>
  simp only [dH,List.mem_singleton] at hx;subst hx;have:=hd d rfl;simp [It.holds,Act.put,this]
theorem kX  (h:Good X W n ρ a w):Good X W n ρ (a.put d v) w:=by refine ⟨?_,?_,h.grown,h.inj,h.lo,h.old,h.loose,h.apart,h.one,h.far⟩ <;> cases d <;> simp [Act.put,h.defers,h.size]
theorem kY  (ho:ops[i]?=some o) (hw:Region.wanted o (yielded ops a.tmps)=true) (ρ':Env) (v:SV) (w':World)
  (hr:(execOp a.eval o).run P w = .ok (.value (v.ev ρ')) w'∨((execOp a.eval o).run P w = .ok .skip w'∧o.dst=none)){add:List It}
  (hs:eE X W n k kill ρ w ρ' w') (hG:Good X W n ρ a w) (hd:∀x,o.dst=some x->x<n) (ha:∀x,x ∈ add->x.holds Φ X ρ' (a.put o.dst (v.ev ρ')) w')
  (hK:∀ρ' a' w',Good X W n ρ' a' w'->(∀x,x ∈ dH o.dst v ++ add->x.holds Φ X ρ' a' w')->(∀x:It,x.holds Φ X ρ a w->(∀y,y ∈ cQ o.dst ++ kill->x.hit y=false)->k ∉ x.sts->x.holds Φ X ρ' a' w')->K a' w'):wpOp P ops Q i K a w:=by
 have h:K (a.put o.dst (v.ev ρ')) w':=by
  refine hK ρ' _ w' (kX (hs.good a hG)) (λx hx=>?_) (λx hx hk hn=>?_)
  ·rcases List.mem_append.1 hx with hx | hx
   ·exact kW (λx hx=>by rw [hG.size];exact hd x hx) x hx
   ·exact ha x hx
  ·have hk1:∀y,y ∈ kill->x.hit y=false:=λy hy=>hk y (List.mem_append_right _ hy);have hs':eE X W n k (cQ o.dst ++ kill) ρ w ρ' w':=⟨hs.same,hs.g,hs.good,λj q g u hj=>hs.cells j q g u (λy hy=>hj y (List.mem_append_right _ hy)),λJ hj=>hs.tight J (λy hy=>hj y (List.mem_append_right _ hy)),hs.own,λj x hj=>hs.o j x (λy hy=>hj y (List.mem_append_right _ hy)),λj hj=>hs.os j (λy hy=>hj y (List.mem_append_right _ hy))⟩;exact frame hs' (λt ht=>kV t (λy hy=>ht y (List.mem_append_left _ hy))) x hx hk hn
 unfold wpOp;simp only [ho,hw,if_true];refine .inl ?_;unfold Oper.wp;rcases hr with hr | ⟨hr,hn⟩
 ·rw [hr];exact h
 ·rw [hr];simp only [Oper.upon];rw [hn] at h ⊢;exact h
theorem Lb  (k:Nat) (kill:List Key):eE X W n k kill ρ w ρ w:=
 .of (λ_ _=>rfl) (λ_ _=>rfl) (λ_ h=>h) (λ_ _ _ _ _ _ h1 h2=>⟨h1,h2⟩) (Off.refl _ _) (λ_ j _ h=>⟨j,h⟩) rfl
theorem mC {l:List Value} (k:Nat) (g:w.grownBy w' none):eE X W n k [] ρ w (ρ.put k l) w':=by refine .of (λx hx=>nU x hx) (λ_ _=>rfl) (λa h=>⟨h.defers,h.size,bf h.grown g,h.inj,λj b hj=>?_,h.old,λj m hm=>⟨(h.loose j m hm).1,Nat.lt_of_lt_of_le (h.loose j m hm).2 g.size⟩,h.apart,h.one,⟨Nat.le_trans h.far.1 g.size,h.far.2⟩⟩) (λj o b v _ hj h1 h2=>⟨cell_grown g h1,gX g h1 h2⟩) (Off.grown g) (λ_ j _ h=>⟨j,h⟩) rfl;exact ⟨(h.lo j b hj).1,Nat.lt_of_lt_of_le (h.lo j b hj).2 g.size⟩
theorem ahD  (k:Nat) (c:Array Value) (t:TypeId):eE X W n k [] ρ w (ρ.box k w.heap.size) (w.alloc (.cells c t)):=by
 have g:=bn w (.cells c t) none;have hb:∀j b,(ρ.box k w.heap.size).g j=some b->(j=k∧b=w.heap.size)∨(j≠k∧ρ.g j=some b):=λj b h=>by
  simp only [Env.box] at h;split at h
  ·exact .inl ⟨‹_›,(Option.some.inj h).symm⟩
  ·exact .inr ⟨‹_›,h⟩
 refine .of (λx hx=>KZ x hx) (λj hj=>by simp [Env.box,hj]) (λa h=>⟨h.defers,h.size,bf h.grown g,λj m b hj hm=>?_,λj b hj=>?_,h.old,λj m hm=>⟨(h.loose j m hm).1,Nat.lt_of_lt_of_le (h.loose j m hm).2 g.size⟩,λi j b hj ho=>?_,h.one,⟨Nat.le_trans h.far.1 g.size,h.far.2⟩⟩) (λj o b v _ hj h1 h2=>⟨cell_grown g h1,gX g h1 h2⟩) (Off.grown g) (λm j hm h=>?_) rfl
 ·rcases hb j b hj with ⟨h1,h2⟩ | ⟨h1,h2⟩ <;> rcases hb m b hm with ⟨h3,h4⟩ | ⟨h3,h4⟩
  ·rw [h1,h3]
  ·have:=(h.lo m b h4).2;omega
  ·have:=(h.lo j b h2).2;omega
  ·exact h.inj j m b h2 h4
 ·rcases hb j b hj with ⟨h1,h2⟩ | ⟨h1,h2⟩
  ·subst h2;exact ⟨h.grown.size,by simp⟩
  ·exact ⟨(h.lo j b h2).1,by have:=(h.lo j b h2).2;simp;omega⟩
 ·rcases hb j b hj with ⟨h1,h2⟩ | ⟨h1,h2⟩
  ·have:=(h.loose i b ho).2;omega
  ·exact h.apart i j b h2 ho
 ·rcases hb j m h with ⟨h1,h2⟩ | ⟨h1,h2⟩
  ·omega
  ·exact ⟨j,h2⟩
end
theorem Lc (g:Nat){m:Nat} (hm:m≠g):∀(vs:List Value) (o:Nat) (w:World),(w.setCells g o vs).heap[m]?=w.heap[m]?
 | [],_,_=>rfl
 | v :: r,o,w=>by rw [World.setCells,Lc g hm r];exact Below.heap_setCell _ _ _ _ (by simpa using hm)
theorem jE (g:Nat):∀(vs:List Value) (o:Nat) (w:World),w.grownBy (w.setCells g o vs) (some g)
 | [],_,_=>bH _ _
 | v :: r,o,w=>bf (cI w g o v) (jE g r (o+1) _)
theorem ahE {a:Atom} (h:a.zG=true) (ρ:Env):(a.ev ρ).oneCell'=true:=by cases a <;> simp_all [Atom.zG,Atom.ev,Value.oneCell']
theorem ahF {a:Atom} (h:a.still=true) (ρ:Env) (k:IntKind) (z:Int):a.ev ρ≠.int k z:=by cases a <;> simp_all [Atom.still,Atom.ev]
def zV (P:Program) (st:List It) (t:TypeId) (x y:Operand):Option (Nat×Nat×List Atom×List Atom×List It):=
 match val st x,val st y with
 | some (.c (.one (.ptr k o)),n),some (.c v,m)=>
  if dU P t=some v.cells.length∧v.cells.length≠0∧v.cells.all Atom.zG=true then
   (fB st k o v.cells.length).bind λl=>if l.all Atom.still then some (k,o,v.cells,l,n ++ m ++ fC k o l) else none
  else none
 | _,_=>none
def rK (k:Nat):Nat->Nat->List Key
 | _,0=>[]
 | o,n+1=>.cell k o :: rK k (o+1) n
theorem Ld {k:Nat}:∀{n o j:Nat},j<n->Key.cell k (o+j) ∈ rK k o n
 | n+1,o,0,_=>by simp [rK]
 | n+1,o,j+1,h=>by have:=Ld (k:=k) (n:=n) (o:=o+1) (j:=j) (by omega);rw [show o+1+j=o+(j+1) by omega] at this;exact List.mem_cons_of_mem _ this
section
variable {P:Program}{ops:Array Oper}{Q:Exit->Act->World->Prop}{st:List It}
theorem ahG {y:Operand}{b q:Nat}{vs l:List Atom}{need:List It} (ho:o.op = .store t x y) (h:zV P st t x y=some (b,q,vs,l,need)) (hl:∀z,z ∈ need->z.holds Φ X ρ a w) (hG:Good X W n ρ a w) :
  ∃w',(execOp a.eval o).run P w = .ok .skip w'∧eE X W n k (rK b q vs.length) ρ w ρ w'∧∀z,z ∈ fC b q vs->∀a',z.holds Φ X ρ a' w':=by
 unfold zV at h;split at h
 case h_2=>cases h
 rename_i k0 o0 n1 v m1 hx hy;split at h
 case isFalse=>cases h
 rename_i hc;obtain ⟨h1,h2,h3⟩:=hc;cases hcl:fB st k0 o0 v.cells.length with
 | none=>simp [hcl] at h
 | some l0=>
  simp only [hcl,Option.bind_some] at h;split at h
  case isFalse=>cases h
  rename_i hst;simp only [Option.some.injEq,Prod.mk.injEq] at h;obtain ⟨rfl,rfl,rfl,rfl,rfl⟩:=h;have hlen:=nS hcl;have ex:=val_ok hx (bV (bV hl));have ey:=val_ok hy (bi (bV hl));have hold:=bi hl;have hget:∀j,j<v.cells.length->∃u:Atom,l0[j]?=some u∧u.still=true:=λj hj=>by
   have hj':j<l0.length:=by omega
   exact ⟨l0[j],List.getElem?_eq_getElem hj',List.all_eq_true.1 hst _ (List.getElem_mem hj')⟩
  obtain ⟨u0,hu0,_⟩:=hget 0 (by omega);obtain ⟨g,hg,_,_⟩:=hold _ (kU (o:=o0) hu0);have hcell:∀j,j<v.cells.length->∃u:Atom,u.still=true∧w.cell? ⟨g,o0+j,none⟩=some (u.ev ρ)∧w.frozen? ⟨g,o0+j,none⟩=false:=λj hj=>by obtain ⟨u,hu,hs⟩:=hget j hj;obtain ⟨g',hg',h4,h5⟩:=hold _ (kU (o:=o0) hu);obtain rfl:g=g':=Option.some.inj (hg.symm.trans hg');exact ⟨u,hs,h4,h5⟩
  have hrun:=run_storeCells_cells (P:=P) g o0 (v.cells.map (Atom.ev ρ)) 0 w
   (λj hj=>by obtain ⟨u,_,h4,_⟩:=hcell j (by simpa using hj);rw [Nat.add_zero,h4];rfl)
   (λj hj=>by obtain ⟨u,_,_,h5⟩:=hcell j (by simpa using hj);rw [Nat.add_zero];exact h5)
   (λz hz=>by obtain ⟨c,hc,rfl⟩:=List.mem_map.1 hz;exact ahE (List.all_eq_true.1 h3 c hc) ρ)
  rw [Nat.add_zero] at hrun;refine ⟨w.setCells g o0 (v.cells.map (Atom.ev ρ)),?_,eE.of (λ_ _=>rfl) (λ_ _=>rfl) (λa' h'=>⟨h'.defers,h'.size,di h'.grown (jE g _ _ _) (h'.lo _ g hg).1,h'.inj,λj c hj=>?_,h'.old,λj m hm=>⟨(h'.loose j m hm).1,Nat.lt_of_lt_of_le (h'.loose j m hm).2 (jE g _ _ _).size⟩,h'.apart,h'.one,⟨Nat.le_trans h'.far.1 (jE g _ _ _).size,h'.far.2⟩⟩) (λj o' g' u hj hg' h4 h5=>?_) ⟨⟨(jE g _ _ _).size,λp kk z _ hp=>?_⟩,λm hm hx=>?_⟩ (λ_ j _ h=>⟨j,h⟩) rfl,λz hz a'=>?_⟩
  ·unfold execOp;simp only [ho,ex,ey];have e0:Instr.sureAddr (C.ev ρ (.one (.ptr k0 o0)))=pure ⟨g,o0,none⟩:=by simp [C.ev,Atom.ev,Instr.sureAddr,hg]
   simp only [Instr.storeAt,SV.ev,e0,storeVar,kR,Sem.run_bind,Sem.run_pure,Result.andThen_ok,run_sizeOf h1];simp [hrun]
  ·exact ⟨(h'.lo j c hj).1,Nat.lt_of_lt_of_le (h'.lo j c hj).2 (jE g _ _ _).size⟩
  ·rw [World.frozen?_setCells];refine ⟨?_,h5⟩;rw [World.cell?_setCells_out g _ _ _ _ (λhb _=>?_)]
   ·exact h4
   ·obtain rfl:g'=g:=hb;obtain rfl:j=k0:=hG.inj j k0 g' hg' hg;simp only [List.length_map];rcases Nat.lt_or_ge o' o0 with h6 | h6
    ·exact .inl h6
    ·rcases Nat.lt_or_ge o' (o0+v.cells.length) with h7 | h7
     ·have:=hj _ (Ld (k:=j) (o:=o0) (n:=v.cells.length) (j:=o' - o0) (by omega));simp only [It.hit,show o0+(o' - o0)=o' by omega,beq_self_eq_true,Bool.and_self] at this;cases this
     ·exact .inr h7
  ·rw [World.cell?_setCells_out g _ _ _ _ (λhb hsp=>?_)]
   ·exact hp
   ·simp only [List.length_map];rcases Nat.lt_or_ge p.off o0 with h6 | h6
    ·exact .inl h6
    ·rcases Nat.lt_or_ge p.off (o0+v.cells.length) with h7 | h7
     ·obtain ⟨u,hs,h8,_⟩:=hcell (p.off-o0) (by omega);rw [show o0+(p.off-o0)=p.off by omega] at h8;obtain ⟨pb,po,ps⟩:=p;simp only at hb hsp;subst hb;subst hsp;rw [hp] at h8;exact absurd (Option.some.inj h8).symm (ahF hs ρ _ _)
     ·exact .inr h7
  ·exact Lc g (λe=>hx (.inr ⟨k0,by rw [e];exact hg⟩)) _ _ _
  ·obtain ⟨j,c,rfl,hj⟩:=rF hz;refine ⟨g,hg,?_,?_⟩
   ·have hj':j<v.cells.length:=(List.getElem?_eq_some_iff.1 hj).1;rw [World.cell?_setCells_in g _ _ _ (λq hq=>by obtain ⟨u,_,h4,_⟩:=hcell q (by simpa using hq);rw [h4];rfl) j (by simpa using hj')];simp only [List.getElem_map,Option.some.injEq];rw [List.getElem?_eq_getElem hj'] at hj;rw [Option.some.inj hj]
   ·rw [World.frozen?_setCells];obtain ⟨u,_,_,h5⟩:=hcell j (List.getElem?_eq_some_iff.1 hj).1;exact h5
def fV (P:Program) (f:FuncId):Bool:=match P.funcs[f]? with
 | some fn => !(fn.name == "runtime.NumGoroutine") && fn.body.isSome
 | none=>false
theorem rL  (ho:o.op = .call c) (hc:c.callee = .value x) (hx:a.eval x = .func (.func f) #[] #[]) (hf:fV P f=true) :
  (execOp a.eval o).run P w = .ok (.enter f (c.args.map a.eval)) w:=by
 unfold fV at hf;split at hf
 case h_2=>cases hf
 rename_i fn hfn;simp only [Bool.and_eq_true,Bool.not_eq_true'] at hf;obtain ⟨h1,h2⟩:=hf;have h3:fn.body≠none:=by intro hb;rw [hb] at h2;cases h2
 have h4 : fn.name ≠ "runtime.NumGoroutine" := by simpa using h1
 unfold execOp;simp [ho,resolve,hc,hx,Deferred.ofValue,invoke,callFunc,hfn,h3,h4]
theorem Lf {ca:Array Value} (ho:o.op = .call c) (hc:c.callee = .value x) (hx:a.eval x = .func (.func f) #[] ca) (hf:fV P f=true) :
  (execOp a.eval o).run P w = .ok (.enter f (c.args.map a.eval ++ ca)) w:=by
 unfold fV at hf;split at hf
 case h_2=>cases hf
 rename_i fn hfn;simp only [Bool.and_eq_true,Bool.not_eq_true'] at hf;obtain ⟨h1,h2⟩:=hf;have h3:fn.body≠none:=by intro hb;rw [hb] at h2;cases h2
 have h4 : fn.name ≠ "runtime.NumGoroutine" := by simpa using h1
 unfold execOp;simp [ho,resolve,hc,hx,Deferred.ofValue,invoke,callFunc,hfn,h3,h4]
def rM (J:List Nat) (y:C) (p:Nat):It->Bool
 | .held J' x q=>q == p && (x.beq y && J'.all λj=>J.contains j)
 | _=>false
def ib (st:List It) (J:List Nat) (y:C) (p:Nat):It:=if J = [] then .fact y p else if st.any (λz=>z.beq (.fact y p)) then .fact y p else (st.find? (rM J y p)).getD (.fact y p)
theorem mD {st:List It}{J:List Nat}{y:C} (h:(ib st J y p).holds Φ X ρ a w):∀w1,Off (co J X ρ) w w1->Φ p w1 (y.ev ρ):=by
 have hf:(It.fact y p).holds Φ X ρ a w->∀w1,Off (co J X ρ) w w1->Φ p w1 (y.ev ρ):=λh w1 hw=>h w1 (hw.wide λ_ h=>h.own);unfold ib at h;split at h
 ·exact hf h
 ·split at h
  ·exact hf h
  ·cases hs:st.find? (rM J y p) with
   | none=>rw [hs] at h;exact hf h
   | some z=>
    rw [hs] at h;have hz:=List.find?_some hs;cases z with
    | held J' x q=>
     simp only [rM,Bool.and_eq_true,beq_iff_eq,List.all_eq_true,List.contains_eq_mem,decide_eq_true_eq] at hz;obtain ⟨rfl,hx,hJ⟩:=hz;rw [<- C.dK hx];exact λw1 hw=>h w1 (hw.wide λ_ h=>h.less hJ)
    | _=>cases hz
def mE (st:List It) (J:List Nat) (sz:Nat):List Atom->List Nat->List It
 | _,[]=>[]
 | l,p :: ps=>ib st J (.agg (l.take sz)) p :: mE st J sz (l.drop sz) ps
def nW (st:List It) (J:List Nat) (x:Operand):Arg->Option (List It)
 | .fact p=>match val st x with
  | some (.c y,n)=>some (n ++ [ib st J y p])
  | _=>none
 | .lit b=>match val st x with
  | some (.c (.one y),n)=>if y.beq b && b.st.isNone then some n else none
  | _=>none
 | .row sz ps=>match val st x with
  | some (.c (.one (.row k n)),m)=>if n=ps.length then (fB st k 0 (n*sz)).map λl=>m ++ (fC k 0 l ++ mE st J sz l ps) else none
  | _=>none
 | .parts sh fs=>match val st x with
  | some (.c y,n)=>if pH y sh then some (n ++ fs.map λq=>ib st J (bM q.1 q.2.1 y) q.2.2) else none
  | _=>none
 | .any=>(val st x).map (·.2)
def dI (st:List It) (J:List Nat):List Operand->List Arg->Option (List It)
 | [],[]=>some []
 | x :: xs,g :: gs=>match nW st J x g,dI st J xs gs with
  | some n,some m=>some (n ++ m)
  | _,_=>none
 | _,_=>none
theorem Lg {J:List Nat}{ρ:Env}{a:Act}{w:World}{b g:Nat} (hg:ρ.g b=some g) (sz:Nat):∀(ps:List Nat) (o:Nat) (l:List Atom),l.length=ps.length*sz->(∀z,z ∈ fC b o l ++ mE st J sz l ps->z.holds Φ X ρ a w)->rowOk Φ (co J X ρ) w g sz o ps
 | [],_,_,_,_=>trivial
 | p :: ps,o,l,hlen,hl=>by
  have hlen':l.length=ps.length*sz+sz:=by rw [hlen,List.length_cons,Nat.succ_mul]
  refine ⟨⟨(l.take sz).map (Atom.ev ρ),by simp;omega,λc u hc=>?_,λw1 hw=>?_⟩,Lg (a:=a) hg sz ps (o+sz) (l.drop sz) (by simp;omega) (λz hz=>?_)⟩
  ·simp only [List.getElem?_map,Option.map_eq_some_iff] at hc;obtain ⟨y,hy,rfl⟩:=hc;have hy':l[c]?=some y:=by
    rw [List.getElem?_take] at hy;split at hy
    ·exact hy
    ·cases hy
   obtain ⟨g',hg',h1,_⟩:=hl _ (List.mem_append_left _ (kU (o:=o) hy'));obtain rfl:g=g':=Option.some.inj (hg.symm.trans hg');exact h1
  ·exact mD (hl (ib st J (.agg (l.take sz)) p) (List.mem_append_right _ (by simp [mE]))) w1 hw
  ·rcases List.mem_append.1 hz with hz | hz
   ·obtain ⟨j,y,rfl,hj⟩:=rF hz;rw [List.getElem?_drop] at hj;have:=hl _ (List.mem_append_left _ (kU (o:=o) hj))
    rwa [<- Nat.add_assoc] at this
   ·exact hl z (List.mem_append_right _ (by simp [mE,hz]))
theorem Lh {J:List Nat}{g:Arg}{need:List It} (h:nW st J x g=some need) (hl:∀z,z ∈ need->z.holds Φ X ρ a w):g.ok Φ (co J X ρ) w (a.eval x):=by
 cases g with
 | fact p=>
  simp only [nW] at h;split at h
  ·rename_i y n1 hx;simp at h;subst h;rw [val_ok hx (bV hl)];exact mD (hl (ib st J y p) (by simp))
  ·cases h
 | lit b=>
  simp only [nW] at h;split at h
  ·rename_i y n1 hx;split at h
   ·rename_i hb;simp at h;subst h;simp only [Bool.and_eq_true,Option.isNone_iff_eq_none] at hb;rw [Arg.ok,val_ok hx hl,Atom.dK hb.1];exact rJ hb.2 _ _
   ·cases h
  ·cases h
 | row sz ps=>
  simp only [nW] at h;split at h
  ·rename_i k0 n0 m hx;split at h
   ·rename_i hn;subst hn;cases hc:fB st k0 0 (ps.length*sz) with
    | none=>simp [hc] at h
    | some l=>
     simp [hc] at h;subst h;have hlen:=nS hc;have hl':=bi hl;rw [Arg.ok,val_ok hx (bV hl)];refine ⟨(ρ.g k0).getD 0,rfl,?_⟩;cases hg:ρ.g k0 with
     | some g=>exact Lg hg sz ps 0 l hlen hl'
     | none=>
      have hnil:l = []:=by
       cases l with
       | nil=>rfl
       | cons y l=>
        obtain ⟨g,hg',_⟩:=hl' (.cell k0 0 y) (by simp [fC]);rw [hg] at hg';cases hg'
      subst hnil;have hz:∀(ps:List Nat) (o:Nat),ps.length*sz=0->(∀z,z ∈ mE st J sz [] ps->z.holds Φ X ρ a w)->rowOk Φ (co J X ρ) w 0 sz o ps:=by
       intro ps
       induction ps with
       | nil=>intro o _ _;trivial
       | cons p ps ih=>
        intro o h0 h1;have hsz:sz=0:=by
         rcases Nat.mul_eq_zero.1 h0 with h0 | h0
         ·simp at h0
         ·exact h0
        exact ⟨⟨[],by simp [hsz],by simp,λw1 hw=>mD (h1 (ib st J (.agg []) p) (by simp [mE])) w1 hw⟩,ih _ (by simp [hsz]) (λz hz=>h1 z (by simp [mE,hz]))⟩
      exact hz ps 0 (by simpa using hlen.symm) (λz hz=>hl' z (by simpa [fC] using hz))
   ·cases h
  ·cases h
 | parts sh fs=>
  simp only [nW] at h;split at h
  ·rename_i y n1 hx;split at h
   ·rename_i hf;simp at h;subst h;rw [Arg.ok,val_ok hx (bV hl)];refine ⟨uR hf ρ,λq hq w1 hw=>?_⟩;have:=mD (hl (ib st J (bM q.1 q.2.1 y) q.2.2) (List.mem_append_right _ (List.mem_map.2 ⟨q,hq,rfl⟩))) w1 hw
    rwa [nT] at this
   ·cases h
  ·cases h
 | any=>trivial
theorem gR {J:List Nat}{ρ:Env}{a:Act}{w:World}:∀{xs:List Operand}{gs:List Arg}{need:List It},dI st J xs gs=some need->(∀z,z ∈ need->z.holds Φ X ρ a w)->cX Φ (co J X ρ) w gs (xs.map a.eval)
 | [],[],_,_,_=>trivial
 | x :: xs,g :: gs,need,h,hl=>by
  simp only [dI] at h;split at h
  ·rename_i n1 m1 h1 h2;simp at h;subst h;exact ⟨Lh h1 (bV hl),gR h2 (bi hl)⟩
  ·cases h
 | [],_ :: _,_,h,_=>by simp [dI] at h
 | _ :: _,[],_,h,_=>by simp [dI] at h
def dh (k:Nat) (s:Site):Option SV:=if s.bJ then some (.bJ (mB k 0 s.outs)) else match mB k 0 s.outs with
 | [x]=>some (.c x)
 | _=>none
theorem kZ {J:List Nat} (h:∀y,y ∈ facts k 0 os->∃x p,y = .fact x p∧∀w1,Off (co J X ρ) w w1->Φ p w1 (x.ev ρ)) (x:It) (hx:x ∈ fa J k os):x.holds Φ X ρ a w:=by
 unfold fa at hx;split at hx
 ·rename_i e;subst e;obtain ⟨y,p,rfl,hy⟩:=h x hx;exact hy
 ·obtain ⟨z,hz,rfl⟩:=List.mem_map.1 hx;obtain ⟨y,p,rfl,hy⟩:=h z hz;exact hy
def eF (s:Site):Bool:=s.outs.all λo=>o.sh.good
theorem ahH {v:SV}{need:List It} (hi:ops[i]?=some o) (hw:Region.wanted o (yielded ops a.tmps)=true) (ho:o.op = .call c) (hc:c.callee = .value x0) (hx0:a.eval x0 = .func (.func s.f) #[] #[]) (hf:fV P s.f=true) (hs:rI Φ P s) (hsg:eF s=true)
  (hv:dh k s=some v) (ha:dI st s.J c.args.toList s.args=some need) (hl:∀z,z ∈ need->z.holds Φ X ρ a w) (hG:Good X W n ρ a w) (hd:∀x,o.dst=some x->x<n)
  (hK:∀ρ' a' w',Good X W n ρ' a' w'->(∀x,x ∈ dH o.dst v ++ fa s.J k s.outs->x.holds Φ X ρ' a' w')->(∀x:It,x.holds Φ X ρ a w->(∀y,y ∈ cQ o.dst->x.hit y=false)->k ∉ x.sts->x.holds Φ X ρ' a' w')->K a' w'):wpOp P ops Q i K a w:=by
 unfold wpOp;simp only [hi,hw,if_true];refine .inl ?_;unfold Oper.wp;rw [rL ho hc hx0 hf];have hargs:(c.args.map a.eval)=(c.args.toList.map a.eval).toArray:=by apply Array.ext';simp
 simp only [Oper.upon];rw [hargs];refine (hs (co s.J X ρ) w _ (λm hm=>hG.below hm.own) (gR ha hl)).mono λe w' ⟨hg,us,he,hus⟩=>?_;subst he;obtain ⟨e1,e2⟩:=gP (ρ:=ρ) (k:=k) (l:=us.flatMap cellsOf) (c:=0) hus hsg (λj u hj=>by rw [Nat.zero_add];exact hj);have hev:(if s.bJ then Value.tuple us.toArray else us.headD undef)=v.ev (ρ.put k (us.flatMap cellsOf)):=by
  unfold dh at hv;split at hv
  ·rename_i ht;simp only [Option.some.injEq] at hv;subst hv;rw [if_pos ht,SV.ev,e1]
  ·rename_i ht;rw [if_neg ht];split at hv
   ·rename_i x hx;simp only [Option.some.injEq] at hv;subst hv;rw [hx] at e1;exact (congrArg (λl:List Value=>l.headD undef) e1).symm
   ·cases hv
 have hst:eE X W n k [] ρ w (ρ.put k (us.flatMap cellsOf)) w':=mC k hg;show K (a.put o.dst _) w';rw [hev];refine hK _ _ w' (kX (hst.good a hG)) (λx hx=>?_) (λx hx hk hn=>?_)
 ·rcases List.mem_append.1 hx with hx | hx
  ·exact kW (λx hx=>by rw [hG.size];exact hd x hx) x hx
  ·exact kZ (λy hy=>by obtain ⟨z,p,rfl,hz⟩:=e2 y hy;exact ⟨z,p,rfl,hz⟩) x hx
 ·have hst':eE X W n k (cQ o.dst) ρ w (ρ.put k (us.flatMap cellsOf)) w':=⟨hst.same,hst.g,hst.good,λj q g u _=>hst.cells j q g u (λy hy=>by cases hy),λJ _=>hst.tight J (λy hy=>by cases hy),hst.own,λj x _=>hst.o j x (λy hy=>by cases hy),λj _=>hst.os j (λy hy=>by cases hy)⟩;exact frame hst' (λt ht=>kV t ht) x hx hk hn
theorem ahI {v:SV}{need:List It} (hi:ops[i]?=some o) (hw:Region.wanted o (yielded ops a.tmps)=true) (ho:o.op = .call c) (hc:c.callee = .value x0) (hf:fV P s.f=true) (hs:zO Φ P s) (hsg:eF s=true)
  (hv:dh k s=some v) (ha:dI st s.J (x0 :: c.args.toList) s.args=some need) (hl:∀z,z ∈ need->z.holds Φ X ρ a w) (hG:Good X W n ρ a w) (hd:∀x,o.dst=some x->x<n)
  (hK:∀ρ' a' w',Good X W n ρ' a' w'->(∀x,x ∈ dH o.dst v ++ fa s.J k s.outs->x.holds Φ X ρ' a' w')->(∀x:It,x.holds Φ X ρ a w->(∀y,y ∈ cQ o.dst->x.hit y=false)->k ∉ x.sts->x.holds Φ X ρ' a' w')->K a' w'):wpOp P ops Q i K a w:=by
 unfold wpOp;simp only [hi,hw,if_true];refine .inl ?_;unfold Oper.wp;obtain ⟨ca,hx0,hcl⟩:=hs (co s.J X ρ) w (a.eval x0) (c.args.toList.map a.eval) (λm hm=>hG.below hm.own) (gR ha hl);rw [Lf ho hc hx0 hf];have hargs:(c.args.map a.eval)=(c.args.toList.map a.eval).toArray:=by apply Array.ext';simp
 simp only [Oper.upon];rw [hargs];refine hcl.mono λe w' ⟨hg,us,he,hus⟩=>?_;subst he;obtain ⟨e1,e2⟩:=gP (ρ:=ρ) (k:=k) (l:=us.flatMap cellsOf) (c:=0) hus hsg (λj u hj=>by rw [Nat.zero_add];exact hj);have hev:(if s.bJ then Value.tuple us.toArray else us.headD undef)=v.ev (ρ.put k (us.flatMap cellsOf)):=by
  unfold dh at hv;split at hv
  ·rename_i ht;simp only [Option.some.injEq] at hv;subst hv;rw [if_pos ht,SV.ev,e1]
  ·rename_i ht;rw [if_neg ht];split at hv
   ·rename_i x hx;simp only [Option.some.injEq] at hv;subst hv;rw [hx] at e1;exact (congrArg (λl:List Value=>l.headD undef) e1).symm
   ·cases hv
 have hst:eE X W n k [] ρ w (ρ.put k (us.flatMap cellsOf)) w':=mC k hg;show K (a.put o.dst _) w';rw [hev];refine hK _ _ w' (kX (hst.good a hG)) (λx hx=>?_) (λx hx hk hn=>?_)
 ·rcases List.mem_append.1 hx with hx | hx
  ·exact kW (λx hx=>by rw [hG.size];exact hd x hx) x hx
  ·exact kZ (λy hy=>by obtain ⟨z,p,rfl,hz⟩:=e2 y hy;exact ⟨z,p,rfl,hz⟩) x hx
 ·have hst':eE X W n k (cQ o.dst) ρ w (ρ.put k (us.flatMap cellsOf)) w':=⟨hst.same,hst.g,hst.good,λj q g u _=>hst.cells j q g u (λy hy=>by cases hy),λJ _=>hst.tight J (λy hy=>by cases hy),hst.own,λj x _=>hst.o j x (λy hy=>by cases hy),λj _=>hst.os j (λy hy=>by cases hy)⟩;exact frame hst' (λt ht=>kV t ht) x hx hk hn
theorem ahJ {m:Op->Option (List Operand)}{v:SV}{need:List It} (hi:ops[i]?=some o) (hw:Region.wanted o (yielded ops a.tmps)=true) (hm:m o.op=some xs) (hs:rH Φ P m s) (hsg:eF s=true) (ht:s.bJ=false)
  (hv:dh k s=some v) (ha:dI st s.J xs s.args=some need) (hl:∀z,z ∈ need->z.holds Φ X ρ a w) (hG:Good X W n ρ a w) (hd:∀x,o.dst=some x->x<n)
  (hK:∀ρ' a' w',Good X W n ρ' a' w'->(∀x,x ∈ dH o.dst v ++ fa s.J k s.outs->x.holds Φ X ρ' a' w')->(∀x:It,x.holds Φ X ρ a w->(∀y,y ∈ cQ o.dst->x.hit y=false)->k ∉ x.sts->x.holds Φ X ρ' a' w')->K a' w'):wpOp P ops Q i K a w:=by
 obtain ⟨u,w',hr,hgr,hu⟩:=hs (co s.J X ρ) w a o xs (λ_ hk=>hG.below hk.own) hm (gR ha hl);obtain ⟨e1,e2⟩:=gP (ρ:=ρ) (k:=k) (l:=[u].flatMap cellsOf) (c:=0) hu hsg (λj u hj=>by rw [Nat.zero_add];exact hj);have hev:u=v.ev (ρ.put k ([u].flatMap cellsOf)):=by
  unfold dh at hv;rw [ht] at hv;simp only [Bool.false_eq_true,if_false] at hv;split at hv
  ·rename_i x hx;simp only [Option.some.injEq] at hv;subst hv;rw [hx] at e1;exact (congrArg (λl:List Value=>l.headD undef) e1).symm
  ·cases hv
 refine kY hi hw (ρ.put k ([u].flatMap cellsOf)) v w' (.inl (by rw [<- hev];exact hr)) (mC k hgr) hG hd (λx hx=>?_) (λρ' a' w' h1 h2 h3=>hK ρ' a' w' h1 h2 (λx hx hk hn=>h3 x hx (λy hy=>hk y (by simpa using hy)) hn));exact kZ (λy hy=>by obtain ⟨z,p,rfl,hz⟩:=e2 y hy;exact ⟨z,p,rfl,hz⟩) x hx
theorem ahK {m:Op->Option (List Operand)}{v:SV}{need:List It} (hi:ops[i]?=some o) (hw:Region.wanted o (yielded ops a.tmps)=true) (hm:m o.op=some xs) (hs:KU Φ P m s) (hsg:eF s=true) (ht:s.bJ=false)
  (hv:dh k s=some v) (ha:dI st s.J xs s.args=some need) (hl:∀z,z ∈ need->z.holds Φ X ρ a w) (hG:Good X W n ρ a w) (hd:∀x,o.dst=some x->x<n)
  (hK:∀ρ' a' w',Good X W n ρ' a' w'->(∀x,x ∈ dH o.dst v ++ facts k 0 s.outs->x.holds Φ X ρ' a' w')->(∀x:It,x.holds Φ X ρ a w->(∀y,y ∈ cQ o.dst->x.hit y=false)->k ∉ x.sts->x.holds Φ X ρ' a' w')->K a' w'):wpOp P ops Q i K a w:=by
 obtain ⟨u,w',hr,hgr,hu⟩:=hs (co s.J X ρ) w a o xs (λ_ hk=>hG.below hk.own) hm (gR ha hl);obtain ⟨e1,e2⟩:=gP (ρ:=ρ) (k:=k) (l:=[u].flatMap cellsOf) (c:=0) (hu (Own X ρ)) hsg (λj u hj=>by rw [Nat.zero_add];exact hj);have hev:u=v.ev (ρ.put k ([u].flatMap cellsOf)):=by
  unfold dh at hv;rw [ht] at hv;simp only [Bool.false_eq_true,if_false] at hv;split at hv
  ·rename_i x hx;simp only [Option.some.injEq] at hv;subst hv;rw [hx] at e1;exact (congrArg (λl:List Value=>l.headD undef) e1).symm
  ·cases hv
 refine kY hi hw (ρ.put k ([u].flatMap cellsOf)) v w' (.inl (by rw [<- hev];exact hr)) (mC k hgr) hG hd (λx hx=>?_) (λρ' a' w' h1 h2 h3=>hK ρ' a' w' h1 h2 (λx hx hk hn=>h3 x hx (λy hy=>hk y (by simpa using hy)) hn));obtain ⟨z,p,rfl,hz⟩:=e2 x hx;exact hz
theorem cT (ρ:Env) (f:Nat->Nat->Prop) (x:Atom):x.ev { ρ with o:=f }=x.ev ρ:=by cases x <;> rfl
theorem C.cT (ρ:Env) (f:Nat->Nat->Prop) (x:C):x.ev { ρ with o:=f }=x.ev ρ:=by
 cases x with
 | one a=>exact Sym.cT ρ f a
 | agg l=>simp only [C.ev];rw [List.map_congr_left λa _=>Sym.cT ρ f a]
theorem SV.cT (ρ:Env) (f:Nat->Nat->Prop) (x:SV):x.ev { ρ with o:=f }=x.ev ρ:=by
 cases x with
 | c x=>exact C.cT ρ f x
 | bJ l=>simp only [SV.ev];rw [List.map_congr_left λa _=>C.cT ρ f a]
def lc (j:Nat):SV->List It
 | .c (.one a)=>[.lo j a]
 | _=>[]
theorem ahL  (h:Good X W n ρ a w) (_:w.grownBy w' r) (hu:∀m,blk u=some m->m<w'.heap.size∧(ρ.o j m∨w.heap.size<=m)) (hi:2<=i) (hm:ρ.o i m∨(i=j∧blk u=some m)):W.drawn<=m:=by
 rcases hm with hm | ⟨rfl,hm⟩
 ·exact h.far.2 i m hi hm
 ·rcases (hu m hm).2 with h1 | h1
  ·exact h.far.2 i m hi h1
  ·exact Nat.le_trans h.far.1 h1
theorem rowOk.less {X Y:Nat->Prop}{w:World}{g sz:Nat} (h:∀k,Y k->X k):∀{l:List Nat}{o:Nat},rowOk Φ X w g sz o l->rowOk Φ Y w g sz o l
 | [],_,_=>trivial
 | _ :: _,_,⟨⟨l,h1,h2,h3⟩,h4⟩=>⟨⟨l,h1,h2,λw1 hw=>h3 w1 (hw.wide h)⟩,rowOk.less h h4⟩
theorem Arg.ok.less {X Y:Nat->Prop}{w:World}{g:Arg}{v:Value} (h:∀k,Y k->X k) (ha:g.ok Φ X w v):g.ok Φ Y w v:=by
 cases g with
 | fact p=>exact λw1 hw=>ha w1 (hw.wide h)
 | lit a=>exact ha
 | row sz ps=>obtain ⟨g,h1,h2⟩:=ha;exact ⟨g,h1,rowOk.less h h2⟩
 | parts sh fs=>exact ⟨ha.1,λq hq w1 hw=>ha.2 q hq w1 (hw.wide h)⟩
 | any=>trivial
theorem cX.less {X Y:Nat->Prop}{w:World} (h:∀k,Y k->X k):∀{l:List Arg}{vs:List Value},cX Φ X w l vs->cX Φ Y w l vs
 | [],[],_=>trivial
 | _ :: _,_ :: _,⟨h1,h2⟩=>⟨Arg.ok.less h h1,cX.less h h2⟩
theorem uS {l:List Value} (g:w.grownBy w' r) (hL:∀m,r=some m->ρ.o j m) (hk:Kp w w')
  (hc:∀g o v,(∀h,r=some h->g≠h)->w.cell? ⟨g,o,none⟩=some v->w.frozen? ⟨g,o,none⟩=false->w'.cell? ⟨g,o,none⟩=some v∧w'.frozen? ⟨g,o,none⟩=false)
  (hu:∀m,blk u=some m->m<w'.heap.size∧(ρ.o j m∨w.heap.size<=m)){a0:Act} (hG:Good X W n ρ a0 w):eE X W n k [.loose j] ρ w { ρ.put k l with o:=λi m=>ρ.o i m∨(i=j∧blk u=some m) } w':=by
 refine ⟨λx hx=>(cT (ρ.put k l) _ x).trans (nU x hx),λ_ _=>rfl,λa h=>⟨h.defers,h.size,?_,h.inj,λi b hj=>⟨(h.lo i b hj).1,Nat.lt_of_lt_of_le (h.lo i b hj).2 g.size⟩,h.old,λi m hm=>?_,λi q m hg hm=>?_,λi q m h1 h2=>?_,⟨Nat.le_trans h.far.1 g.size,λi m hi hm=>ahL h g hu hi hm⟩⟩,λi o b v _ hg h1 h2=>hc b o v (λm hm e=>?_) h1 h2,λJ hJ=>⟨hk,λm hm hx=>g.block m hm (λe=>?_)⟩,λJ m hm h=>?_,λ_ _ _ _ _ h=>.inl h,λ_ _ _ h=>.inl h⟩
 ·cases r with
  | none=>exact bf h.grown g
  | some m=>exact di h.grown g (h.loose j m (hL m rfl)).1
 ·rcases hm with hm | ⟨-,hm⟩
  ·exact ⟨(h.loose i m hm).1,Nat.lt_of_lt_of_le (h.loose i m hm).2 g.size⟩
  ·obtain ⟨h1,h2⟩:=hu m hm;refine ⟨?_,h1⟩;rcases h2 with h2 | h2
   ·exact (h.loose j m h2).1
   ·exact Nat.le_trans h.grown.size h2
 ·rcases hm with hm | ⟨-,hm⟩
  ·exact h.apart i q m hg hm
  ·rcases (hu m hm).2 with h2 | h2
   ·exact h.apart j q m hg h2
   ·have:=(h.lo q m hg).2;omega
 ·have key:∀i,(ρ.o i m∨(i=j∧blk u=some m))->blk u=some m->i=j:=λi h1 h3=>by
   rcases h1 with h1 | ⟨h1,-⟩
   ·rcases (hu m h3).2 with h4 | h4
    ·exact h.one i j m h1 h4
    ·have:=(h.loose i m h1).2;omega
   ·exact h1
  rcases h1 with h1 | h1
  ·rcases h2 with h2 | h2
   ·exact h.one i q m h1 h2
   ·rw [key i (.inl h1) h2.2,h2.1]
  ·rw [h1.1,key q h2 h1.2]
 ·subst e;exact hG.apart j i b hg (hL b hm)
 ·exact hx (.inr (.inr ⟨j,λhj=>by have:=hJ _ (List.mem_singleton.2 rfl);simp [It.hit] at this;exact this hj,hL m e.symm⟩))
 ·rcases h with h | h | ⟨i,h1,h2⟩
  ·exact .inl h
  ·exact .inr (.inl h)
  ·refine .inr (.inr ⟨i,h1,?_⟩);rcases h2 with h2 | ⟨rfl,h2⟩
   ·exact h2
   ·rcases (hu m h2).2 with h4 | h4
    ·exact h4
    ·omega
theorem ahM {m:Op->Option (List Operand)}{n0:List It}{v:SV}{need:List It} (hi:ops[i]?=some o) (hw:Region.wanted o (yielded ops a.tmps)=true) (hm:m o.op=some xs) (hs:KR Φ P ix m s){mF:List It} (hJ':s.J=j :: J') (hjJ:j ∉ J') (ha2:dI st J' xs (s.args.set ix .any)=some mF) (hln:∀z,z ∈ mF->z.holds Φ X ρ a w) (hJ:j ∈ s.J) (hsg:eF s=true) (ht:s.bJ=false)
  (hv:dh k s=some v) (ha:dI st s.J xs s.args=some need) (hx0:xs[ix]?=some x0) (hv0:val st x0=some (.c (.one a0),n0)) (hl:∀z,z ∈ need->z.holds Φ X ρ a w) (hl0:∀z,z ∈ n0->z.holds Φ X ρ a w) (hlo:∀g,blk (a0.ev ρ)=some g->ρ.o j g) (hG:Good X W n ρ a w) (hd:∀x,o.dst=some x->x<n)
  (hK:∀ρ' a' w',Good X W n ρ' a' w'->(∀x,x ∈ dH o.dst v ++ (fa s.J k s.outs ++ lc j v)->x.holds Φ X ρ' a' w')->(∀x:It,x.holds Φ X ρ a w->(∀y,y ∈ cQ o.dst ++ [.loose j]->x.hit y=false)->k ∉ x.sts->x.holds Φ X ρ' a' w')->K a' w'):wpOp P ops Q i K a w:=by
 obtain ⟨u,w',r,hr,hgr,hL,hkp,hc,hu,ho⟩:=hs (co s.J X ρ) (ρ.o j) w a o xs (λ_ hk=>hG.below hk.own) (λg hg=>(hG.loose j g hg).2) (λg hg h=>by
  rcases h with h | ⟨q,h⟩ | ⟨q,h1,h2⟩
  ·have:=hG.old g h;have:=(hG.loose j g hg).1;omega
  ·exact hG.apart j q g h hg
  ·exact h1 (hG.one q j g h2 hg▸hJ)) hm (gR ha hl) (λx g hx hg=>by
   rw [hx0] at hx;obtain rfl:=Option.some.inj hx;rw [val_ok hv0 hl0] at hg;exact hlo g hg) (cX.less (λm hm=>by
   rcases hm with hm | hm
   ·rcases hm with h | h | ⟨q,h1,h2⟩
    ·exact .inl h
    ·exact .inr (.inl h)
    ·exact .inr (.inr ⟨q,λh=>h1 (hJ'▸List.mem_cons_of_mem _ h),h2⟩)
   ·exact .inr (.inr ⟨j,hjJ,hm⟩)) (gR ha2 hln))
 obtain ⟨e1,e2⟩:=gP (ρ:=ρ) (k:=k) (l:=[u].flatMap cellsOf) (c:=0) ho hsg (λj u hj=>by rw [Nat.zero_add];exact hj);have hev:u=v.ev (ρ.put k ([u].flatMap cellsOf)):=by
  unfold dh at hv;rw [ht] at hv;simp only [Bool.false_eq_true,if_false] at hv;split at hv
  ·rename_i x hx;simp only [Option.some.injEq] at hv;subst hv;rw [hx] at e1;exact (congrArg (λl:List Value=>l.headD undef) e1).symm
  ·cases hv
 have hst:=uS (k:=k) (l:=[u].flatMap cellsOf) hgr hL hkp hc hu hG;have gF:=hev.trans (SV.cT (ρ.put k ([u].flatMap cellsOf)) (λi m=>ρ.o i m∨(i=j∧blk u=some m)) v).symm;refine kY hi hw _ v w' (.inl (by rw [<- gF];exact hr)) hst hG hd (λx hx=>?_) hK;rcases List.mem_append.1 hx with hx | hx
 ·refine kZ (λy hy=>?_) x hx;obtain ⟨z,p,rfl,hz⟩:=e2 y hy;refine ⟨z,p,rfl,λw1 hw1=>?_⟩;rw [C.cT];refine hz w1 (hw1.wide λm h=>?_);rcases h with h | h | ⟨i,h1,h2⟩
  ·exact .inl h
  ·exact .inr (.inl h)
  ·refine .inr (.inr ⟨i,h1,?_⟩);rcases h2 with h2 | ⟨rfl,-⟩
   ·exact h2
   ·exact absurd hJ h1
 ·match v,hx,gF with
  | .c (.agg _),hx,_=>cases hx
  | .bJ _,hx,_=>cases hx
  | .c (.one y),hx,gF=>
   simp only [lc,List.mem_singleton] at hx;subst hx;intro g hg;have e:y.ev { ρ.put k ([u].flatMap cellsOf) with o:=λi m=>ρ.o i m∨(i=j∧blk u=some m) }=u:=gF.symm;rw [e] at hg;exact .inr ⟨rfl,hg⟩
def nX (J:List Nat) (x:C) (p:Nat):It:=if J = [] then .fact x p else .held J x p
theorem uT {J:List Nat}{y:C} (h:∀w1,Off (co J X ρ) w w1->Φ p w1 (y.ev ρ)):(nX J y p).holds Φ X ρ a w:=by
 unfold nX;split
 ·rename_i e;subst e;exact h
 ·exact h
def ja (st:List It):List Operand->Option (List Atom×List It)
 | []=>some ([],[])
 | x :: xs=>match val st x,ja st xs with
  | some (.c (.one a),n),some (ats,m)=>some (a :: ats,n ++ m)
  | _,_=>none
theorem nY {ρ:Env}{a:Act}{w:World}:∀{xs:List Operand}{ats:List Atom}{n:List It},ja st xs=some (ats,n)->(∀z,z ∈ n->z.holds Φ X ρ a w)->xs.map a.eval=ats.map (Atom.ev ρ)
 | [],ats,n,h,_=>by simp [ja] at h;obtain ⟨rfl,rfl⟩:=h;rfl
 | x :: xs,ats,n,h,hl=>by
  simp only [ja] at h;split at h
  ·rename_i b n1 bs m1 h1 h2;simp only [Option.some.injEq,Prod.mk.injEq] at h;obtain ⟨rfl,rfl⟩:=h;rw [List.map_cons,List.map_cons,val_ok h1 (bV hl),nY h2 (bi hl)];rfl
  ·cases h
theorem ahN {m:Op->Option (List Operand)}{n0:List It}{y:Atom}{need:List It} (hi:ops[i]?=some o) (hw:Region.wanted o (yielded ops a.tmps)=true) (hm:m o.op=some xs) (hs:KS Φ P p m s) (hsg:eF s=true) (ht:s.bJ=false)
  (hv:dh k s=some (.c (.one y))) (ha:dI st s.J xs s.args=some need) (hon:ja st xs=some (ats,n0)) (hall:ats.all (λx=>x.st != some k)=true) (hl:∀z,z ∈ need->z.holds Φ X ρ a w) (hl0:∀z,z ∈ n0->z.holds Φ X ρ a w) (hG:Good X W n ρ a w) (hd:∀x,o.dst=some x->x<n)
  (hK:∀ρ' a' w',Good X W n ρ' a' w'->(∀x,x ∈ dH o.dst (.c (.one y)) ++ (fa s.J k s.outs ++ [nX s.J (.agg (ats ++ [y])) p])->x.holds Φ X ρ' a' w')->(∀x:It,x.holds Φ X ρ a w->(∀y,y ∈ cQ o.dst->x.hit y=false)->k ∉ x.sts->x.holds Φ X ρ' a' w')->K a' w'):wpOp P ops Q i K a w:=by
 obtain ⟨u,w',hr,hgr,hu,hj⟩:=hs (co s.J X ρ) w a o xs (λ_ hk=>hG.below hk.own) hm (gR ha hl);obtain ⟨e1,e2⟩:=gP (ρ:=ρ) (k:=k) (l:=[u].flatMap cellsOf) (c:=0) hu hsg (λj u hj=>by rw [Nat.zero_add];exact hj);have hev:u=y.ev (ρ.put k ([u].flatMap cellsOf)):=by
  unfold dh at hv;rw [ht] at hv;simp only [Bool.false_eq_true,if_false] at hv;split at hv
  ·rename_i x hx;simp only [Option.some.injEq,SV.c.injEq] at hv;subst hv;rw [hx] at e1;exact (congrArg (λl:List Value=>l.headD undef) e1).symm
  ·cases hv
 refine kY hi hw (ρ.put k ([u].flatMap cellsOf)) (.c (.one y)) w' (.inl (by rw [show SV.ev (ρ.put k ([u].flatMap cellsOf)) (.c (.one y))=u from hev.symm];exact hr)) (mC k hgr) hG hd (λx hx=>?_) (λρ' a' w' h1 h2 h3=>hK ρ' a' w' h1 h2 (λx hx hk hn=>h3 x hx (λy hy=>hk y (by simpa using hy)) hn));rcases List.mem_append.1 hx with hx | hx
 ·exact kZ (λy hy=>by obtain ⟨z,p,rfl,hz⟩:=e2 y hy;exact ⟨z,p,rfl,hz⟩) x hx
 ·rw [List.mem_singleton.1 hx];refine uT λw1 hw1=>?_;have e:(ats ++ [y]).map (Atom.ev (ρ.put k ([u].flatMap cellsOf)))=xs.map a.eval ++ [u]:=by
   rw [List.map_append,nY hon hl0];congr 1
   ·exact List.map_congr_left λz hz=>nU z (by have:=List.all_eq_true.1 hall z hz;simpa using this)
   ·exact congrArg (λz=>[z]) hev.symm
  show Φ p w1 (.agg ((ats ++ [y]).map _).toArray);rw [e];exact hj w1 hw1
def rN (J:List Nat) (a:Atom) (os:List Out):List It:=match os with
 | [o]=>o.fs.map λq=>nX J (bM q.1 q.2.1 (.one a)) q.2.2
 | _=>[]
theorem zW {n0:List It}{w:World} (hon:ja st xs=some (ats,n0)) (hl0:∀z,z ∈ n0->z.holds Φ X ρ a w) (ha0:ats[ix]?=some a0) (hx:xs[ix]?=some x):a.eval x=a0.ev ρ:=by
 have h1:(xs.map a.eval)[ix]?=some (a.eval x):=by rw [List.getElem?_map,hx];rfl
 rw [nY hon hl0,List.getElem?_map,ha0] at h1;exact (Option.some.inj h1).symm
theorem ahO {m:Op->Option (List Operand)}{n0:List It}{v:SV}{need:List It} (hi:ops[i]?=some o) (hw:Region.wanted o (yielded ops a.tmps)=true) (hm:m o.op=some xs) (hs:KT Φ P ix p m s) (hJ':s.J=j :: J') (_:j ∉ J') (hsg:eF s=true) (ht:s.bJ=false)
  (hv:dh k s=some v) (ha:dI st s.J xs s.args=some need) (hon:ja st xs=some (ats,n0)) (ha0:ats[ix]?=some a0) (hl:∀z,z ∈ need->z.holds Φ X ρ a w) (hl0:∀z,z ∈ n0->z.holds Φ X ρ a w) (_:(It.lo j a0).holds Φ X ρ a w) (hp:∀w1,Off (co s.J X ρ) w w1->Φ p w1 ((C.agg ats).ev ρ)) (hG:Good X W n ρ a w) (hd:∀x,o.dst=some x->x<n)
  (hK:∀ρ' a' w',Good X W n ρ' a' w'->(∀x,x ∈ dH o.dst v ++ fa J' k s.outs->x.holds Φ X ρ' a' w')->(∀x:It,x.holds Φ X ρ a w->(∀y,y ∈ cQ o.dst ++ [.rE j a0]->x.hit y=false)->k ∉ x.sts->x.holds Φ X ρ' a' w')->K a' w'):wpOp P ops Q i K a w:=by
 have Li:=nY hon hl0;obtain ⟨u,w',hr,hgr,hu0⟩:=hs (co s.J X ρ) w a o xs (λ_ hk=>hG.below hk.own) hm (gR ha hl) (λw1 hw1=>by rw [Li];exact hp w1 hw1);obtain ⟨x0,hx0⟩:∃x,xs[ix]?=some x:=by
  have h1:(xs.map a.eval)[ix]?=some (a0.ev ρ):=by rw [Li,List.getElem?_map,ha0];rfl
  rw [List.getElem?_map] at h1;obtain ⟨x,hx,-⟩:=Option.map_eq_some_iff.1 h1;exact ⟨x,hx⟩
 have hu:=hu0 x0 hx0;rw [zW hon hl0 ha0 hx0] at hu;obtain ⟨e1,e2⟩:=gP (ρ:=ρ) (k:=k) (l:=[u].flatMap cellsOf) (c:=0) hu hsg (λj u hj=>by rw [Nat.zero_add];exact hj);have hev:u=v.ev (ρ.put k ([u].flatMap cellsOf)):=by
  unfold dh at hv;rw [ht] at hv;simp only [Bool.false_eq_true,if_false] at hv;split at hv
  ·rename_i x hx;simp only [Option.some.injEq] at hv;subst hv;rw [hx] at e1;exact (congrArg (λl:List Value=>l.headD undef) e1).symm
  ·cases hv
 have hg0:=mC (k:=k) (ρ:=ρ) (l:=[u].flatMap cellsOf) (X:=X) (W:=W) (n:=n) hgr;have own:∀(J:List Nat) m,co J X { ρ.put k ([u].flatMap cellsOf) with o:=λi m=>(i=j->blk (a0.ev ρ)=some m)∧ρ.o i m } m->co J X ρ m:=λJ m h=>by
  rcases h with h | h | ⟨q,h1,h2⟩
  ·exact .inl h
  ·exact .inr (.inl h)
  ·exact .inr (.inr ⟨q,h1,h2.2⟩)
 have hst:eE X W n k [.rE j a0] ρ w { ρ.put k ([u].flatMap cellsOf) with o:=λi m=>(i=j->blk (a0.ev ρ)=some m)∧ρ.o i m } w':=by
  refine ⟨λx hx=>(cT (ρ.put k ([u].flatMap cellsOf)) _ x).trans (nU x hx),λ_ _=>rfl,λa h=>?_,λq o g v _ hg h1 h2=>⟨cell_grown hgr h1,gX hgr h1 h2⟩,λJ _=>Off.grown hgr,λJ m _ h=>own J m h,λq x hq m hm h=>⟨λe=>?_,h⟩,λq hq m h=>⟨λe=>?_,h⟩⟩
  ·have h':=hg0.good a h;exact ⟨h'.defers,h'.size,h'.grown,h'.inj,h'.lo,h'.old,λq m h=>h'.loose q m h.2,λq r m h1 h2=>h'.apart q r m h1 h2.2,λq r m h1 h2=>h'.one q r m h1.2 h2.2,⟨h'.far.1,λq m hq h=>h'.far.2 q m hq h.2⟩⟩
  ·have:=hq _ (List.mem_singleton.2 rfl);simp only [It.hit,e,beq_self_eq_true,Bool.true_and,Bool.not_eq_false'] at this;rw [<- Atom.dK this];exact hm
  ·have:=hq _ (List.mem_singleton.2 rfl);simp [It.hit,e] at this
 have gF:=hev.trans (SV.cT (ρ.put k ([u].flatMap cellsOf)) (λi m=>(i=j->blk (a0.ev ρ)=some m)∧ρ.o i m) v).symm;refine kY hi hw _ v w' (.inl (by rw [<- gF];exact hr)) hst hG hd (λx hx=>?_) hK;refine kZ (λy hy=>?_) x hx;obtain ⟨z,p,rfl,hz⟩:=e2 y hy;refine ⟨z,p,rfl,λw1 hw1=>?_⟩;rw [C.cT];refine hz w1 (hw1.wide λm h=>?_);rcases h with h | h | ⟨q,h1,h2,h3⟩
 ·exact .inl (.inl h)
 ·exact .inl (.inr (.inl h))
 ·by_cases e:q=j
  ·exact .inr (h2 e)
  ·exact .inl (.inr (.inr ⟨q,by rw [hJ'];simpa using ⟨e,h1⟩,h3⟩))
theorem Lj {n0:List It} (hi:ops[i]?=some o) (hw:Region.wanted o (yielded ops a.tmps)=true) (hs:(∀g,ρ.o j g->¬co s.J X ρ g)->∃w' r,(execOp a.eval o).run P w = .ok .skip w'∧w.grownBy w' r∧(∀g,r=some g->ρ.o j g)∧Kp w w'∧(∀g o v,(∀h,r=some h->g≠h)->w.cell? ⟨g,o,none⟩=some v->w.frozen? ⟨g,o,none⟩=false->w'.cell? ⟨g,o,none⟩=some v∧w'.frozen? ⟨g,o,none⟩=false)∧∀x,xs.dropLast[ix]?=some x->cG Φ (co s.J X ρ) w' s.outs [a.eval x]) (hJ:j ∈ s.J) (hdst:o.dst=none)
  (hon:ja st xs.dropLast=some (ats,n0)) (hall:ats.all (λx=>x.st != some k)=true) (ha0:ats[ix]?=some a0) (hl0:∀z,z ∈ n0->z.holds Φ X ρ a w) (hlo:(It.lo j a0).holds Φ X ρ a w) (hG:Good X W n ρ a w)
  (hK:∀ρ' a' w',Good X W n ρ' a' w'->(∀x,x ∈ rN s.J a0 s.outs->x.holds Φ X ρ' a' w')->(∀x:It,x.holds Φ X ρ a w->(∀y,y ∈ [Key.loose j]->x.hit y=false)->k ∉ x.sts->x.holds Φ X ρ' a' w')->K a' w'):wpOp P ops Q i K a w:=by
 have he:=nY hon hl0;have hx0:∀x,xs.dropLast[ix]?=some x->a.eval x=a0.ev ρ:=λx hx=>by
  have h1:(xs.dropLast.map a.eval)[ix]?=some (a.eval x):=by rw [List.getElem?_map,hx];rfl
  rw [he,List.getElem?_map,ha0] at h1;exact (Option.some.inj h1).symm
 obtain ⟨w',r,hr,hgr,hL,hkp,hc,ho⟩:=hs (λg hg h=>by
  rcases h with h | ⟨q,h⟩ | ⟨q,h1,h2⟩
  ·have:=hG.old g h;have:=(hG.loose j g hg).1;omega
  ·exact hG.apart j q g h hg
  ·exact h1 (hG.one q j g h2 hg▸hJ))
 have hst:=uS (k:=k) (l:=[]) (u:=undef) (j:=j) hgr hL hkp hc (λm hm=>by cases hm) hG;refine kY hi hw _ (.c (.one .un)) w' (.inr ⟨hr,hdst⟩) hst hG (λx hx=>by rw [hdst] at hx;cases hx) (add:=rN s.J a0 s.outs) (λx hx=>?_) (λρ' a' w' h1 h2 h3=>hK ρ' a' w' h1 (λx hx=>h2 x (List.mem_append_right _ hx)) (λx hx hk hn=>h3 x hx (λy hy=>hk y (by rw [hdst] at hy;simpa [cQ] using hy)) hn));unfold rN at hx;split at hx
 ·rename_i q hq;obtain ⟨z,hz,rfl⟩:=List.mem_map.1 hx;obtain ⟨x0,hx0'⟩:∃x0,xs.dropLast[ix]?=some x0:=by
   have:ix<xs.dropLast.length:=by have h1:=(List.getElem?_eq_some_iff.1 ha0).1;have h2:=congrArg List.length he;simp only [List.length_map] at h2;omega
   exact ⟨_,List.getElem?_eq_getElem this⟩
  have h4:=ho x0 hx0';rw [hq,hx0 x0 hx0'] at h4;refine uT λw1 hw1=>?_;rw [C.cT];have h5:=h4.1.2 z hz w1 (hw1.wide λm h=>by
   rcases h with h | h | ⟨i,h1,h2⟩
   ·exact .inl h
   ·exact .inr (.inl h)
   ·refine .inr (.inr ⟨i,h1,?_⟩);rcases h2 with h2 | ⟨rfl,-⟩
    ·exact h2
    ·exact absurd hJ h1)
  have hs0:a0.st≠some k:=by have:=List.all_eq_true.1 hall a0 (List.mem_of_getElem? ha0);simpa using this
  rw [nT];have e:(C.one a0).ev (ρ.put k [])=a0.ev ρ:=nU a0 hs0;rw [e];exact h5
 ·cases hx
theorem uU {more:List Key}{ρ':Env} (h:eE X W n k kill ρ w ρ' w'):eE X W n k (more ++ kill) ρ w ρ' w':=
 ⟨h.same,h.g,h.good,λj q g u hk=>h.cells j q g u λy hy=>hk y (List.mem_append_right _ hy),λJ hJ=>h.tight J λy hy=>hJ y (List.mem_append_right _ hy),h.own,λj x hk=>h.o j x (λy hy=>hk y (List.mem_append_right _ hy)),λj hk=>h.os j (λy hy=>hk y (List.mem_append_right _ hy))⟩
theorem Lk {J:List Nat}{l:List Value} (hJ:j ∈ J) (e2:∀y,y ∈ facts k 0 os->∃x p,y = .fact x p∧∀w1,Off (co J X ρ) w w1->Φ p w1 (x.ev (ρ.put k l))) (x:It) (hx:x ∈ fa J k os):x.holds Φ X { ρ.put k l with o:=λi m=>ρ.o i m∨(i=j∧blk u=some m) } a w:=by
 refine kZ (λy hy=>?_) x hx;obtain ⟨z,p,rfl,hz⟩:=e2 y hy;refine ⟨z,p,rfl,λw1 hw1=>?_⟩;rw [C.cT];refine hz w1 (hw1.wide λm h=>?_);rcases h with h | h | ⟨i,h1,h2⟩
 ·exact .inl h
 ·exact .inr (.inl h)
 ·refine .inr (.inr ⟨i,h1,?_⟩);rcases h2 with h2 | ⟨rfl,-⟩
  ·exact h2
  ·exact absurd hJ h1
theorem ahP {v:SV}{need:List It} (hi:ops[i]?=some o) (hw:Region.wanted o (yielded ops a.tmps)=true) (ho:o.op = .call c) (hc:c.callee = .value x0) (hx0:a.eval x0 = .func (.func s.f) #[] #[]) (hf:fV P s.f=true) (hs:eT Φ P s) (hJ:j ∈ s.J) (hsg:eF s=true) (ht:s.bJ=false)
  (hv:dh k s=some v) (ha:dI st s.J c.args.toList s.args=some need) (hl:∀z,z ∈ need->z.holds Φ X ρ a w) (hG:Good X W n ρ a w) (hd:∀x,o.dst=some x->x<n)
  (hK:∀ρ' a' w',Good X W n ρ' a' w'->(∀x,x ∈ dH o.dst v ++ (fa s.J k s.outs ++ lc j v)->x.holds Φ X ρ' a' w')->(∀x:It,x.holds Φ X ρ a w->(∀y,y ∈ cQ o.dst ++ [.loose j]->x.hit y=false)->k ∉ x.sts->x.holds Φ X ρ' a' w')->K a' w'):wpOp P ops Q i K a w:=by
 unfold wpOp;simp only [hi,hw,if_true];refine .inl ?_;unfold Oper.wp;rw [rL ho hc hx0 hf];have hargs:(c.args.map a.eval)=(c.args.toList.map a.eval).toArray:=by apply Array.ext';simp
 simp only [Oper.upon];rw [hargs];refine (hs (co s.J X ρ) w _ (λm hm=>hG.below hm.own) (gR ha hl)).mono λe w' ⟨hg,u,he,hus,hu⟩=>?_;subst he;obtain ⟨e1,e2⟩:=gP (ρ:=ρ) (k:=k) (l:=[u].flatMap cellsOf) (c:=0) hus hsg (λj u hj=>by rw [Nat.zero_add];exact hj);have hev:u=v.ev (ρ.put k ([u].flatMap cellsOf)):=by
  unfold dh at hv;rw [ht] at hv;simp only [Bool.false_eq_true,if_false] at hv;split at hv
  ·rename_i x hx;simp only [Option.some.injEq] at hv;subst hv;rw [hx] at e1;exact (congrArg (λl:List Value=>l.headD undef) e1).symm
  ·cases hv
 have hst:=uS (k:=k) (l:=[u].flatMap cellsOf) (j:=j) (u:=u) (r:=none) hg (λm hm=>by cases hm) (Kp.of hg) (λg o v _ h4 h5=>⟨cell_grown hg h4,gX hg h4 h5⟩) (λm hm=>⟨(hu m hm).2,.inr (hu m hm).1⟩) hG;have gF:=hev.trans (SV.cT (ρ.put k ([u].flatMap cellsOf)) (λi m=>ρ.o i m∨(i=j∧blk u=some m)) v).symm;show K (a.put o.dst u) w';have hput:a.put o.dst u=a.put o.dst (v.ev { ρ.put k ([u].flatMap cellsOf) with o:=λi m=>ρ.o i m∨(i=j∧blk u=some m) }):=congrArg _ gF;rw [hput];refine hK _ _ w' (kX (hst.good a hG)) (λx hx=>?_) (λx hx hk hn=>frame (uU (more:=cQ o.dst) hst) (λt ht=>kV t (λy hy=>ht y (List.mem_append_left _ hy))) x hx hk hn);rcases List.mem_append.1 hx with hx | hx
 ·exact kW (λx hx=>by rw [hG.size];exact hd x hx) x hx
 rcases List.mem_append.1 hx with hx | hx
 ·exact Lk hJ e2 x hx
 ·match v,hx,gF with
  | .c (.agg _),hx,_=>cases hx
  | .bJ _,hx,_=>cases hx
  | .c (.one y),hx,gF=>
   simp only [lc,List.mem_singleton] at hx;subst hx;intro g hg;have e:y.ev { ρ.put k ([u].flatMap cellsOf) with o:=λi m=>ρ.o i m∨(i=j∧blk u=some m) }=u:=gF.symm;rw [e] at hg;exact .inr ⟨rfl,hg⟩
theorem ahQ {v:SV}{need:List It}{n0:List It}{x1:Operand} (hi:ops[i]?=some o) (hw:Region.wanted o (yielded ops a.tmps)=true) (ho:o.op = .call c) (hc:c.callee = .value x0) (hx0:a.eval x0 = .func (.func s.f) #[] #[]) (hf:fV P s.f=true) (hs:zQ Φ P ix s) (hJ:j ∈ s.J) (hsg:eF s=true) (ht:s.bJ=false)
  (hx1:c.args.toList[ix]?=some x1) (hv1:val st x1=some (.c (.one a0),n0)) (hl0:∀z,z ∈ n0->z.holds Φ X ρ a w) (hlo:(It.lo j a0).holds Φ X ρ a w) (hv:dh k s=some v) (ha:dI st s.J c.args.toList s.args=some need) (hl:∀z,z ∈ need->z.holds Φ X ρ a w) (hG:Good X W n ρ a w) (hd:∀x,o.dst=some x->x<n)
  (hK:∀ρ' a' w',Good X W n ρ' a' w'->(∀x,x ∈ dH o.dst v ++ (fa s.J k s.outs ++ lc j v)->x.holds Φ X ρ' a' w')->(∀x:It,x.holds Φ X ρ a w->(∀y,y ∈ cQ o.dst ++ [.loose j]->x.hit y=false)->k ∉ x.sts->x.holds Φ X ρ' a' w')->K a' w'):wpOp P ops Q i K a w:=by
 unfold wpOp;simp only [hi,hw,if_true];refine .inl ?_;unfold Oper.wp;rw [rL ho hc hx0 hf];have hargs:(c.args.map a.eval)=(c.args.toList.map a.eval).toArray:=by apply Array.ext';simp
 simp only [Oper.upon];rw [hargs];have he1:a.eval x1=a0.ev ρ:=val_ok hv1 hl0;have hat:∀x,(c.args.toList.map a.eval)[ix]?=some x->x=a0.ev ρ:=λx hx=>by rw [List.getElem?_map,hx1] at hx;exact (Option.some.inj hx).symm.trans he1
 refine (hs (co s.J X ρ) (ρ.o j) w _ (λm hm=>hG.below hm.own) (λk hk=>(hG.loose j k hk).2) (λg hg h=>by
  rcases h with h | ⟨q,h⟩ | ⟨q,h1,h2⟩
  ·have:=hG.old g h;have:=(hG.loose j g hg).1;omega
  ·exact hG.apart j q g h hg
  ·exact h1 (hG.one q j g h2 hg▸hJ)) (gR ha hl) (λx g hx hg=>by rw [hat x hx] at hg;exact hlo g hg)).mono λe w' ⟨hg,u,he,hus,hu⟩=>?_
 subst he;obtain ⟨e1,e2⟩:=gP (ρ:=ρ) (k:=k) (l:=[u].flatMap cellsOf) (c:=0) hus hsg (λj u hj=>by rw [Nat.zero_add];exact hj);have hev:u=v.ev (ρ.put k ([u].flatMap cellsOf)):=by
  unfold dh at hv;rw [ht] at hv;simp only [Bool.false_eq_true,if_false] at hv;split at hv
  ·rename_i x hx;simp only [Option.some.injEq] at hv;subst hv;rw [hx] at e1;exact (congrArg (λl:List Value=>l.headD undef) e1).symm
  ·cases hv
 have hst:=uS (k:=k) (l:=[u].flatMap cellsOf) (j:=j) (u:=u) (r:=none) hg (λm hm=>by cases hm) (Kp.of hg) (λg o v _ h4 h5=>⟨cell_grown hg h4,gX hg h4 h5⟩) (λm hm=>hu m hm) hG;have gF:=hev.trans (SV.cT (ρ.put k ([u].flatMap cellsOf)) (λi m=>ρ.o i m∨(i=j∧blk u=some m)) v).symm;show K (a.put o.dst u) w';have hput:a.put o.dst u=a.put o.dst (v.ev { ρ.put k ([u].flatMap cellsOf) with o:=λi m=>ρ.o i m∨(i=j∧blk u=some m) }):=congrArg _ gF;rw [hput];refine hK _ _ w' (kX (hst.good a hG)) (λx hx=>?_) (λx hx hk hn=>frame (uU (more:=cQ o.dst) hst) (λt ht=>kV t (λy hy=>ht y (List.mem_append_left _ hy))) x hx hk hn);rcases List.mem_append.1 hx with hx | hx
 ·exact kW (λx hx=>by rw [hG.size];exact hd x hx) x hx
 rcases List.mem_append.1 hx with hx | hx
 ·exact Lk hJ e2 x hx
 ·match v,hx,gF with
  | .c (.agg _),hx,_=>cases hx
  | .bJ _,hx,_=>cases hx
  | .c (.one y),hx,gF=>
   simp only [lc,List.mem_singleton] at hx;subst hx;intro g hg;have e:y.ev { ρ.put k ([u].flatMap cellsOf) with o:=λi m=>ρ.o i m∨(i=j∧blk u=some m) }=u:=gF.symm;rw [e] at hg;exact .inr ⟨rfl,hg⟩
end
section
variable {P:Program}{ops:Array Oper}{Q:Exit->Act->World->Prop}{st:List It}
end
variable {y:C}
def pK (st:List It) (J:List Nat) (y:C):Arg->Option (List It)
 | .parts sh fs=>if pH y sh then some (fs.map λq=>ib st J (bM q.1 q.2.1 y) q.2.2) else none
 | _=>none
section
variable {P:Program}{ops:Array Oper}{Q:Exit->Act->World->Prop}{st:List It}
theorem Lm {J:List Nat}{g:Arg}{need:List It} (h:pK st J y g=some need) (hl:∀z,z ∈ need->z.holds Φ X ρ a w):g.ok Φ (co J X ρ) w (y.ev ρ):=by
 unfold pK at h;split at h
 case h_2=>cases h
 rename_i sh fs;split at h
 case isFalse=>cases h
 rename_i hf;simp only [Option.some.injEq] at h;subst h;refine ⟨uR hf ρ,λq hq w1 hw=>?_⟩;have:=mD (hl (ib st J (bM q.1 q.2.1 y) q.2.2) (List.mem_map.2 ⟨q,hq,rfl⟩)) w1 hw
 rwa [nT] at this
theorem Ln {Y:Nat->Prop}{w:World}:∀{os:List Out}{us:List Value},cG Φ (λ_=>True) w os us->cG Φ Y w os us
 | [],[],_=>trivial
 | _ :: _,_ :: _,h=>⟨⟨h.1.1,λr hr w1 hw=>h.1.2 r hr w1 (hw.wide λ_ _=>trivial)⟩,Ln h.2⟩
 | [],_ :: _,h=>h.elim
 | _ :: _,[],h=>h.elim
theorem ah1 {v:SV}{need m0 n0:List It}{b:Nat}{l:List Atom}{g0:Arg}{gs:List Arg} (hi:ops[i]?=some o) (hw:Region.wanted o (yielded ops a.tmps)=true) (ho:o.op = .call c) (hc:c.callee = .value x0) (hf:fV P s.f=true)
  (hs:zP Φ P sz s) (hsg:eF s=true) (ah2:s.bJ=false) (hga:s.args=g0 :: gs) (hv:dh k s=some v) (hv0:val st x0=some (.c (.one (.mu s.f b)),n0)) (hcs:fB st b 0 sz=some l) (hsz:sz≠0)
  (hm0:pK st [] (.agg l) g0=some m0) (ha:dI st [] c.args.toList gs=some need) (hn0:∀z,z ∈ n0->z.holds Φ X ρ a w) (hlc:∀z,z ∈ fC b 0 l->z.holds Φ X ρ a w) (hl0:∀z,z ∈ m0->z.holds Φ X ρ a w) (hl:∀z,z ∈ need->z.holds Φ X ρ a w) (hG:Good X W n ρ a w) (hd:∀x,o.dst=some x->x<n)
  (hK:∀ρ' a' w',Good X W n ρ' a' w'->(∀x,x ∈ dH o.dst v ++ fa s.J k s.outs->x.holds Φ X ρ' a' w')->(∀x:It,x.holds Φ X ρ a w->(∀y,y ∈ cQ o.dst->x.hit y=false)->k ∉ x.sts->x.holds Φ X ρ' a' w')->K a' w'):wpOp P ops Q i K a w:=by
 have hlen:=nS hcs;have hcell:∀(q:Nat) (y:Atom),l[q]?=some y->∃g,ρ.g b=some g∧w.cell? ⟨g,q,none⟩=some (y.ev ρ)∧w.frozen? ⟨g,q,none⟩=false:=λq y hy=>by have:=hlc _ (kU (k:=b) (o:=0) hy);rw [Nat.zero_add] at this;exact this
 obtain ⟨B,hB⟩:∃B,ρ.g b=some B:=by obtain ⟨g,hg,_⟩:=hcell 0 l[0] (List.getElem?_eq_getElem (by omega));exact ⟨g,hg⟩
 have he0:a.eval x0 = .func (.func s.f) #[] #[.pointer (some ⟨B,0,none⟩)]:=by rw [val_ok hv0 hn0];show Value.func (.func s.f) #[] #[.pointer (some ⟨(ρ.g b).getD 0,0,none⟩)]=_;rw [hB];rfl
 unfold wpOp;simp only [hi,hw,if_true];refine .inl ?_;unfold Oper.wp;rw [Lf ho hc he0 hf];have hargs:(c.args.map a.eval ++ #[Value.pointer (some ⟨B,0,none⟩)])=(c.args.toList.map a.eval ++ [Value.pointer (some ⟨B,0,none⟩)]).toArray:=by apply Array.ext';simp
 simp only [Oper.upon];rw [hargs];refine (hs (λm=>co [] X ρ m∧m≠B) w B (l.map (Atom.ev ρ)) (c.args.toList.map a.eval) (λm hm=>hG.below hm.1) (λh=>h.2 rfl) (hG.lo b B hB).2 (by simp [hlen]) (λq u hq=>?_) ?_).mono λe w' ⟨hg,u,he,ah3⟩=>?_
 ·rw [List.getElem?_map,Option.map_eq_some_iff] at hq;obtain ⟨y,hy,rfl⟩:=hq;obtain ⟨g,hg,h1,-⟩:=hcell q y hy;obtain rfl:B=g:=Option.some.inj (hB.symm.trans hg);exact h1
 ·rw [hga];exact ⟨Arg.ok.less (λm h=>h.1) (Lm (y:=.agg l) hm0 hl0),cX.less (λm h=>h.1) (gR ha hl)⟩
 subst he;have hus:cG Φ (co s.J X ρ) w' s.outs [u]:=Ln ah3;obtain ⟨e1,e2⟩:=gP (ρ:=ρ) (k:=k) (l:=[u].flatMap cellsOf) (c:=0) hus hsg (λj u hj=>by rw [Nat.zero_add];exact hj);have hev:u=v.ev (ρ.put k ([u].flatMap cellsOf)):=by
  unfold dh at hv;rw [if_neg (by rw [ah2];decide)] at hv;split at hv
  ·rename_i x hx;simp only [Option.some.injEq] at hv;subst hv;rw [hx] at e1;exact (congrArg (λl:List Value=>l.headD undef) e1).symm
  ·cases hv
 have hst:eE X W n k [] ρ w (ρ.put k ([u].flatMap cellsOf)) w':=mC k hg;show K (a.put o.dst _) w';rw [hev];refine hK _ _ w' (kX (hst.good a hG)) (λx hx=>?_) (λx hx hk hn=>?_)
 ·rcases List.mem_append.1 hx with hx | hx
  ·exact kW (λx hx=>by rw [hG.size];exact hd x hx) x hx
  ·exact kZ (λy hy=>by obtain ⟨z,p,rfl,hz⟩:=e2 y hy;exact ⟨z,p,rfl,hz⟩) x hx
 ·have hst':eE X W n k (cQ o.dst) ρ w (ρ.put k ([u].flatMap cellsOf)) w':=⟨hst.same,hst.g,hst.good,λj q g u _=>hst.cells j q g u (λy hy=>by cases hy),λJ _=>hst.tight J (λy hy=>by cases hy),hst.own,λj x _=>hst.o j x (λy hy=>by cases hy),λj _=>hst.os j (λy hy=>by cases hy)⟩;exact frame hst' (λt ht=>kV t ht) x hx hk hn
end
def rP (ops:Array Oper) (st:List It) (o:Oper):Option (Bool×List It):=match o.guard with
 | none=>some (true,[])
 | some (j,want)=>match (ops[j]?).bind (·.dst) with
  | some d=>match fU st d with
   | some (.c (.one (.cb b)))=>some (b == want,[.slot d (.c (.one (.cb b)))])
   | some (.c (.one .un))=>some (false,[.slot d (.c (.one .un))])
   | _=>none
  | none=>none
def ah4 (j:Nat) (a:Atom):List It:=match a with
 | .s _ _=>[.lo j a]
 | .row _ _=>[.lo j a]
 | _=>[]
def pL (_P:Program) (st:List It) (k:Nat) (ss:List Site) (o:Oper) (g:List It):Option (Eff×List Site):=match ss with
 | []=>none
 | s :: rest=>match s.md with
  | .loose J j ix m=>match m o.op with
   | none=>none
   | some xs=>match xs[ix]? with
    | none=>none
    | some x0=>match val st x0 with
     | some (.c (.one a0),n0)=>if eF s=true∧j ∉ J then (match dh k s,dI st s.J xs s.args,dI st J xs (s.args.set ix .any) with
      | some v,some need,some mF=>some (⟨g ++ (need ++ (n0 ++ (mF ++ ah4 j a0))),dH o.dst v ++ (fa s.J k s.outs ++ lc j v),cQ o.dst ++ [.loose j]⟩,rest)
      | _,_,_=>none) else none
     | _=>none
  | .joint _ p m=>match m o.op with
   | none=>none
   | some xs=>if eF s=true∧s.bJ=false then (match dh k s,dI st s.J xs s.args,ja st xs with
    | some (.c (.one y)),some need,some (ats,n0)=>if ats.all (λx=>x.st != some k) then some (⟨g ++ (need ++ n0),dH o.dst (.c (.one y)) ++ (fa s.J k s.outs ++ [nX s.J (.agg (ats ++ [y])) p]),cQ o.dst⟩,rest) else none
    | _,_,_=>none) else none
  | .put _ j ix p m=>match m o.op with
   | none=>none
   | some xs=>if o.dst.isNone=true then (match dI st s.J xs s.args,ja st xs.dropLast with
    | some need,some (ats,n0)=>(match ats[ix]? with
     | some a0=>if ats.all (λx=>x.st != some k) then some (⟨g ++ (need ++ (n0 ++ [ib st s.J (.agg ats) p,.lo j a0])),rN s.J a0 s.outs,[.loose j]⟩,rest) else none
     | none=>none)
    | _,_=>none) else none
  | .ot J j ix p m=>match m o.op with
   | none=>none
   | some xs=>if o.dst.isNone=true∧j ∉ J then (match dI st s.J xs s.args,ja st xs.dropLast,dI st J xs (s.args.set ix .any) with
    | some need,some (ats,n0),some mF=>(match ats[ix]? with
     | some a0=>if ats.all (λx=>x.st != some k) then some (⟨g ++ (need ++ (n0 ++ (mF ++ [ib st s.J (.agg ats) p,.lo j a0]))),rN s.J a0 s.outs,[.loose j]⟩,rest) else none
     | none=>none)
    | _,_,_=>none) else none
  | .iK J j ix p m=>match m o.op with
   | none=>none
   | some xs=>if eF s=true∧s.bJ=false∧j ∉ J then (match dh k s,dI st s.J xs s.args,ja st xs with
    | some v,some need,some (ats,n0)=>(match ats[ix]? with
     | some a0=>some (⟨g ++ (need ++ (n0 ++ [ib st s.J (.agg ats) p,.lo j a0])),dH o.dst v ++ fa J k s.outs,cQ o.dst ++ [.rE j a0]⟩,rest)
     | none=>none)
    | _,_,_=>none) else none
  | .jj _ m=>match m o.op with
   | none=>none
   | some xs=>if eF s=true∧s.bJ=false then (match dh k s,dI st s.J xs s.args with
    | some v,some need=>some (⟨g ++ need,dH o.dst v ++ facts k 0 s.outs,cQ o.dst⟩,rest)
    | _,_=>none) else none
  | _=>match s.q with
   | none=>none
   | some m=>match m o.op with
    | none=>none
    | some xs=>if eF s=true∧s.bJ=false then (match dh k s,dI st s.J xs s.args with
     | some v,some need=>some (⟨g ++ need,dH o.dst v ++ fa s.J k s.outs,cQ o.dst⟩,rest)
     | _,_=>none) else none
def ld (st:List It) (x:Operand) (f:FuncId):Bool:=match x with
 | .func h=>h == f
 | .tmp t=>match fU st t with
  | some (.c (.one (.fn h)))=>h == f
  | _=>false
 | _=>false
def pM (x:Operand) (f:FuncId):List It:=match x with
 | .tmp t=>[.slot t (.c (.one (.fn f)))]
 | _=>[]
theorem rQ {st:List It} (h:ld st x f=true) (hl:∀z,z ∈ pM x f->z.holds Φ X ρ a w):a.eval x = .func (.func f) #[] #[]:=by
 cases x with
 | tmp t=>
  have:=hl _ (List.mem_singleton.2 rfl);exact uJ (v:=.func (.func f) #[] #[]) this
 | const v=>simp [ld] at h
 | global g=>simp [ld] at h
 | func g=>
  simp only [ld,beq_iff_eq] at h;subst h;rfl
def zZ (P:Program) (st:List It) (k:Nat) (s:Site) (x:Operand) (c:Call) (o:Oper) (g:List It):Option Eff:=match s.md with
 | .eM _ j=>if ld st x s.f=true∧fV P s.f=true∧eF s=true then (match dh k s,dI st s.J c.args.toList s.args with
  | some v,some need=>some ⟨g ++ (need ++ pM x s.f),dH o.dst v ++ (fa s.J k s.outs ++ lc j v),cQ o.dst ++ [.loose j]⟩
  | _,_=>none) else none
 | .mT _ j i=>if ld st x s.f=true∧fV P s.f=true∧eF s=true then (match dh k s,dI st s.J c.args.toList s.args,c.args.toList[i]? with
  | some v,some need,some x1=>match val st x1 with
   | some (.c (.one a0),n0)=>some ⟨g ++ (need ++ (n0 ++ ([.lo j a0] ++ pM x s.f))),dH o.dst v ++ (fa s.J k s.outs ++ lc j v),cQ o.dst ++ [.loose j]⟩
   | _=>none
  | _,_,_=>none) else none
 | .du sz=>if fV P s.f=true∧eF s=true∧sz≠0 then (match s.args,val st x with
  | g0 :: gs,some (.c (.one (.mu f b)),n0)=>(match fB st b 0 sz with
   | some l=>if f=s.f then (match dh k s,pK st [] (.agg l) g0,dI st [] c.args.toList gs with
    | some v,some m0,some need=>some ⟨g ++ (n0 ++ (fC b 0 l ++ (m0 ++ need))),dH o.dst v ++ fa s.J k s.outs,cQ o.dst⟩
    | _,_,_=>none) else none
   | none=>none)
  | _,_=>none) else none
 | .rj _=>if fV P s.f=true∧eF s=true then (match dh k s,dI st s.J (x :: c.args.toList) s.args with
  | some v,some need=>some ⟨g ++ need,dH o.dst v ++ fa s.J k s.outs,cQ o.dst⟩
  | _,_=>none) else none
 | _=>none
def takes (ss:List Site) (op:Op):Bool:=match ss with
 | s :: _=>match s.md with
  | .loose _ _ _ m=>(m op).isSome
  | .fresh _ m=>(m op).isSome
  | _=>false
 | []=>false
def uV (P:Program) (ops:Array Oper) (n:Nat) (st:List It) (k:Nat) (ss:List Site) (o:Oper):Option (Eff×List Site):=
 if o.dst.all (λd=>decide (d<n)) then
  match rP ops st o with
  | some (false,g)=>some (⟨g,dH o.dst (.c (.one .un)),cQ o.dst⟩,ss)
  | some (true,g)=>match o.op with
   | .store t x y=>if o.dst.isNone then (match zV P st t x y with
     | some (b,q,vs,_,need)=>some (⟨g ++ need,fC b q vs,rK b q vs.length⟩,ss)
     | none=>pL P st k ss o g) else none
   | .call c=>(match c.callee,ss with
     | .value x,s :: rest=>(match zZ P st k s x c o g with
      | some e=>some (e,rest)
      | none=>if (s.q.isNone=true∧s.lz.isNone=true)∧ld st x s.f=true∧fV P s.f=true∧eF s=true then (match dh k s,dI st s.J c.args.toList s.args with
      | some v,some need=>some (⟨g ++ (need ++ pM x s.f),dH o.dst v ++ fa s.J k s.outs,cQ o.dst⟩,rest)
      | _,_=>none) else none)
     | _,_=>pL P st k ss o g)
   | op=>if takes ss op then pL P st k ss o g else (match zM P st op with
    | some (cs,_,r,need)=>if cs.all (λx=>x.st != some k) then some (⟨g ++ need,dH o.dst (.c (.one (newAtom k r))) ++ fC k 0 cs,cQ o.dst⟩,ss) else none
    | none=>match zL P st op with
     | some (v,need)=>some (⟨g ++ need,dH o.dst v,cQ o.dst⟩,ss)
     | none=>pL P st k ss o g)
  | none=>none
 else none
section
variable {P:Program}{ops:Array Oper}{Q:Exit->Act->World->Prop}{st:List It}
theorem fW {b:Bool}{g:List It} (h:rP ops st o=some (b,g)) (hl:∀z,z ∈ g->z.holds Φ X ρ a w):Region.wanted o (yielded ops a.tmps)=b:=by
 unfold rP at h;unfold Region.wanted;split at h
 ·rename_i hg;simp at h;simp [hg,h.1]
 ·rename_i j want hg;simp only [hg];split at h
  ·rename_i d hd;split at h
   ·rename_i c hs;simp at h;obtain ⟨rfl,rfl⟩:=h;have:=hl _ (List.mem_singleton.2 rfl);simp only [It.holds] at this;simp only [yielded,hd,Option.bind_some,this,SV.ev,C.ev,Atom.ev];cases c <;> cases want <;> rfl
   ·rename_i hs;simp at h;obtain ⟨rfl,rfl⟩:=h;have:=hl _ (List.mem_singleton.2 rfl);simp only [It.holds] at this;simp only [yielded,hd,Option.bind_some,this,SV.ev,C.ev,Atom.ev,undef];cases want <;> rfl
   ·cases h
  ·cases h
theorem uW {e:Eff}{g:List It} (h:pL P st k ss o g=some (e,rest)) (hg:rP ops st o=some (true,g)) (hd:∀x,o.dst=some x->x<n) (hi:ops[i]?=some o) (hs:∀s,s ∈ ss->aj Φ P s):pI P Φ X ops Q W n i k e∧∀s,s ∈ rest->aj Φ P s:=by
 unfold pL at h;split at h
 case h_1=>cases h
 rename_i s rest';have hso:=hs s (List.mem_cons_self ..);split at h
 ·rename_i J j ix m hmd;split at h
  case h_1=>cases h
  rename_i xs hm;split at h
  case h_1=>cases h
  rename_i x0 hx0;split at h
  case h_2=>cases h
  rename_i a0 n0 hv0;split at h
  case isFalse=>cases h
  rename_i hsg;split at h
  case h_2=>cases h
  rename_i v need mF hv ha ha2;simp only [Option.some.injEq,Prod.mk.injEq] at h;obtain ⟨rfl,rfl⟩:=h;unfold aj at hso;rw [hmd] at hso;refine ⟨λρ a w K hG hl hK=>?_,λt ht=>hs t (List.mem_cons_of_mem _ ht)⟩;refine ahM hi (fW hg (bV hl)) hm hso (j:=j) (by simp [Site.J,hmd]) hsg.2 ha2 (bV (bi (bi (bi hl)))) (by simp [Site.J,hmd]) hsg.1 (by simp [Site.bJ,hmd]) hv ha hx0 hv0 (bV (bi hl)) (bV (bi (bi hl))) ?_ hG hd hK;have hn:=bi (bi (bi (bi hl)));cases a0 with
  | s k c=>exact hn _ (List.mem_singleton.2 rfl)
  | row k c=>exact hn _ (List.mem_singleton.2 rfl)
  | _=>intro g hg;cases hg
 ·rename_i J p m hmd;split at h
  case h_1=>cases h
  rename_i xs hm;split at h
  case isFalse=>cases h
  rename_i hc;split at h
  case h_2=>cases h
  rename_i y need ats n0 hv ha hon;split at h
  case isFalse=>cases h
  rename_i hall;simp only [Option.some.injEq,Prod.mk.injEq] at h;obtain ⟨rfl,rfl⟩:=h;unfold aj at hso;rw [hmd] at hso;refine ⟨λρ a w K hG hl hK=>?_,λt ht=>hs t (List.mem_cons_of_mem _ ht)⟩;exact ahN hi (fW hg (bV hl)) hm hso hc.1 hc.2 hv ha hon hall (bV (bi hl)) (bi (bi hl)) hG hd hK
 ·rename_i J j ix p m hmd;split at h
  case h_1=>cases h
  rename_i xs hm;split at h
  case isFalse=>cases h
  rename_i hdst;split at h
  case h_2=>cases h
  rename_i need ats n0 ha hon;split at h
  case h_2=>cases h
  rename_i a0 ha0;split at h
  case isFalse=>cases h
  rename_i hall;simp only [Option.some.injEq,Prod.mk.injEq] at h;obtain ⟨rfl,rfl⟩:=h;unfold aj at hso;rw [hmd] at hso;refine ⟨λρ a w K hG hl hK=>?_,λt ht=>hs t (List.mem_cons_of_mem _ ht)⟩;have hn:=bi (bi (bi hl));exact Lj hi (fW hg (bV hl)) (λhLX=>hso (co s.J X ρ) (ρ.o j) w a o xs (λ_ hk=>hG.below hk.own) (λg hg=>(hG.loose j g hg).2) hLX hm (gR ha (bV (bi hl))) (λw1 hw1=>by rw [nY hon (bV (bi (bi hl)))];exact mD (hn _ (List.mem_cons_self ..)) w1 hw1) (λx g hx hg=>hn _ (List.mem_cons_of_mem _ (List.mem_singleton.2 rfl)) g (by rw [<- zW hon (bV (bi (bi hl))) ha0 hx];exact hg))) (j:=j) (by simp [Site.J,hmd]) (Option.isNone_iff_eq_none.1 hdst) hon hall ha0 (bV (bi (bi hl))) (hn _ (List.mem_cons_of_mem _ (List.mem_singleton.2 rfl))) hG hK
 ·rename_i J j ix p m hmd;split at h
  case h_1=>cases h
  rename_i xs hm;split at h
  case isFalse=>cases h
  rename_i hdst;split at h
  case h_2=>cases h
  rename_i need ats n0 mF ha hon ha2;split at h
  case h_2=>cases h
  rename_i a0 ha0;split at h
  case isFalse=>cases h
  rename_i hall;simp only [Option.some.injEq,Prod.mk.injEq] at h;obtain ⟨rfl,rfl⟩:=h;unfold aj at hso;rw [hmd] at hso;refine ⟨λρ a w K hG hl hK=>?_,λt ht=>hs t (List.mem_cons_of_mem _ ht)⟩;have hn:=bi (bi (bi (bi hl)));exact Lj hi (fW hg (bV hl)) (λhLX=>hso (co s.J X ρ) (ρ.o j) w a o xs (λ_ hk=>hG.below hk.own) (λg hg=>(hG.loose j g hg).2) hLX hm (gR ha (bV (bi hl))) (λw1 hw1=>by rw [nY hon (bV (bi (bi hl)))];exact mD (hn _ (List.mem_cons_self ..)) w1 hw1) (λx g hx hg=>hn _ (List.mem_cons_of_mem _ (List.mem_singleton.2 rfl)) g (by rw [<- zW hon (bV (bi (bi hl))) ha0 hx];exact hg)) (cX.less (λm hm=>by
   rcases hm with hm | hm
   ·rcases hm with h | h | ⟨q,h1,h2⟩
    ·exact .inl h
    ·exact .inr (.inl h)
    ·exact .inr (.inr ⟨q,λh=>h1 (by simp only [Site.J,hmd];exact List.mem_cons_of_mem _ h),h2⟩)
   ·exact .inr (.inr ⟨j,hdst.2,hm⟩)) (gR ha2 (bV (bi (bi (bi hl)))))) ) (j:=j) (by simp [Site.J,hmd]) (Option.isNone_iff_eq_none.1 hdst.1) hon hall ha0 (bV (bi (bi hl))) (hn _ (List.mem_cons_of_mem _ (List.mem_singleton.2 rfl))) hG hK
 ·rename_i J j ix p m hmd;split at h
  case h_1=>cases h
  rename_i xs hm;split at h
  case isFalse=>cases h
  rename_i hc;split at h
  case h_2=>cases h
  rename_i v need ats n0 hv ha hon;split at h
  case h_2=>cases h
  rename_i a0 ha0;simp only [Option.some.injEq,Prod.mk.injEq] at h;obtain ⟨rfl,rfl⟩:=h;unfold aj at hso;rw [hmd] at hso;refine ⟨λρ a w K hG hl hK=>?_,λt ht=>hs t (List.mem_cons_of_mem _ ht)⟩;have hn:=bi (bi (bi hl));exact ahO hi (fW hg (bV hl)) hm hso (by simp [Site.J,hmd]) hc.2.2 hc.1 hc.2.1 hv ha hon ha0 (bV (bi hl)) (bV (bi (bi hl))) (hn _ (List.mem_cons_of_mem _ (List.mem_singleton.2 rfl))) (mD (hn _ (List.mem_cons_self ..))) hG hd hK
 ·rename_i J m hmd;split at h
  case h_1=>cases h
  rename_i xs hm;split at h
  case isFalse=>cases h
  rename_i hc;split at h
  case h_2=>cases h
  rename_i v need hv ha;simp only [Option.some.injEq,Prod.mk.injEq] at h;obtain ⟨rfl,rfl⟩:=h;unfold aj at hso;rw [hmd] at hso;refine ⟨λρ a w K hG hl hK=>?_,λt ht=>hs t (List.mem_cons_of_mem _ ht)⟩;exact ahK hi (fW hg (bV hl)) hm hso hc.1 hc.2 hv ha (bi hl) hG hd hK
 ·rename_i hnl;split at h
  case h_1=>cases h
  rename_i m hq;split at h
  case h_1=>cases h
  rename_i xs hm;split at h
  case isFalse=>cases h
  rename_i hc;split at h
  case h_2=>cases h
  rename_i v need hv ha;simp only [Option.some.injEq,Prod.mk.injEq] at h;obtain ⟨rfl,rfl⟩:=h;refine ⟨λρ a w K hG hl hK=>?_,λt ht=>hs t (List.mem_cons_of_mem _ ht)⟩;have hw:=fW hg (bV hl);have ah5:rH Φ P m s:=by
   unfold aj at hso;unfold Site.q at hq
   revert hso hq
   cases s.md <;> intro hso hq <;> simp at hq
   ·subst hq;exact hso
   ·subst hq;exact hso
   ·subst hq;exact hso
  exact ahJ hi hw hm ah5 hc.1 hc.2 hv ha (bi hl) hG hd hK
theorem ah6 {e:Eff}{g:List It} (h:zZ P st k s x c o g=some e) (hg:rP ops st o=some (true,g)) (hd:∀x,o.dst=some x->x<n) (hi:ops[i]?=some o) (ho:o.op = .call c) (hc:c.callee = .value x) (hs:aj Φ P s):pI P Φ X ops Q W n i k e:=by
 unfold zZ at h;split at h
 case h_5=>cases h
 ·rename_i J j hmd;split at h
  case isFalse=>cases h
  rename_i hcond;obtain ⟨lf,hf,hsg⟩:=hcond;split at h
  case h_2=>cases h
  rename_i v need hv ha;simp only [Option.some.injEq] at h;subst h;have hso:eT Φ P s:=by unfold aj at hs;rw [hmd] at hs;exact hs
  have hJ:j ∈ s.J:=by unfold Site.J;rw [hmd];exact List.mem_cons_self ..
  have ht:s.bJ=false:=by unfold Site.bJ;rw [hmd]
  refine λρ a w K hG hl hK=>?_;exact ahP hi (fW hg (bV hl)) ho hc (rQ lf (bi (bi hl))) hf hso hJ hsg ht hv ha (bV (bi hl)) hG hd hK
 ·rename_i J j ix hmd;split at h
  case isFalse=>cases h
  rename_i hcond;obtain ⟨lf,hf,hsg⟩:=hcond;split at h
  case h_2=>cases h
  rename_i v need x1 hv ha hx1;split at h
  case h_2=>cases h
  rename_i a0 n0 hv1;simp only [Option.some.injEq] at h;subst h;have hso:zQ Φ P ix s:=by unfold aj at hs;rw [hmd] at hs;exact hs
  have hJ:j ∈ s.J:=by unfold Site.J;rw [hmd];exact List.mem_cons_self ..
  have ht:s.bJ=false:=by unfold Site.bJ;rw [hmd]
  refine λρ a w K hG hl hK=>?_;have hl2:=bi (bi (bi hl));exact ahQ hi (fW hg (bV hl)) ho hc (rQ lf (bi hl2)) hf hso hJ hsg ht hx1 hv1 (bV (bi (bi hl))) (hl2 _ (by simp)) hv ha (bV (bi hl)) hG hd hK
 ·rename_i sz hmd;split at h
  case isFalse=>cases h
  rename_i hcond;obtain ⟨hf,hsg,hsz⟩:=hcond;split at h
  case h_2=>cases h
  rename_i g0 gs f b n0 hga hv0;split at h
  case h_2=>cases h
  rename_i l hcs;split at h
  case isFalse=>cases h
  rename_i hff;subst hff;split at h
  case h_2=>cases h
  rename_i v m0 need hv hm0 ha;simp only [Option.some.injEq] at h;subst h;have hso:zP Φ P sz s:=by unfold aj at hs;rw [hmd] at hs;exact hs
  refine λρ a w K hG hl hK=>?_;have h1:=bi hl;have h2:=bi h1;have h3:=bi h2;exact ah1 hi (fW hg (bV hl)) ho hc hf hso hsg (by rw [Site.bJ,hmd]) hga hv hv0 hcs hsz hm0 ha (bV h1) (bV h2) (bV h3) (bi h3) hG hd hK
 ·rename_i J hmd;split at h
  case isFalse=>cases h
  rename_i hcond;obtain ⟨hf,hsg⟩:=hcond;split at h
  case h_2=>cases h
  rename_i v need hv ha;simp only [Option.some.injEq] at h;subst h;have hso:zO Φ P s:=by unfold aj at hs;rw [hmd] at hs;exact hs
  refine λρ a w K hG hl hK=>?_;exact ahI hi (fW hg (bV hl)) ho hc hf hso hsg hv ha (bi hl) hG hd hK
theorem Ac {e:Eff} (h:uV P ops n st k ss o=some (e,rest)) (hi:ops[i]?=some o) (hs:∀s,s ∈ ss->aj Φ P s):pI P Φ X ops Q W n i k e∧∀s,s ∈ rest->aj Φ P s:=by
 unfold uV at h;split at h
 case isFalse=>cases h
 rename_i hdst;have hd:∀x,o.dst=some x->x<n:=λx hx=>by rw [hx] at hdst;simpa using hdst
 split at h
 ·skip
  rename_i g hg;simp only [Option.some.injEq,Prod.mk.injEq] at h;obtain ⟨rfl,rfl⟩:=h;refine ⟨λρ a w K hG hl hK=>?_,hs⟩;have hw:=fW hg hl;unfold wpOp;simp only [hi,hw,Bool.false_eq_true,if_false];refine hK ρ _ w (kX hG) (λx hx=>kW (v:=.c (.one .un)) (λx hx=>by rw [hG.size];exact hd x hx) x hx) (λx hx hk hn=>?_);exact frame (Lb (W:=W) (n:=n) (X:=X) k (cQ o.dst)) (λt ht=>kV t ht) x hx hk hn
 ·rename_i g hg;split at h
  ·rename_i t x y ho;split at h
   case isFalse=>cases h
   rename_i hno;have hno:o.dst=none:=by simpa using hno
   split at h
   case h_2=>exact uW h hg hd hi hs
   rename_i b q vs l need hst;simp only [Option.some.injEq,Prod.mk.injEq] at h;obtain ⟨rfl,rfl⟩:=h;refine ⟨λρ a w K hG hl hK=>?_,hs⟩;have hw:=fW hg (bV hl);obtain ⟨w',hr,hstep,hc⟩:=ahG (k:=k) ho hst (bi hl) hG;refine kY hi hw ρ (.c (.one .un)) w' (.inr ⟨hr,hno⟩) hstep hG hd (λx hx=>hc x hx _) (λρ' a' w' h1 h2 h3=>hK ρ' a' w' h1 (λx hx=>h2 x (List.mem_append_right _ hx)) (λx hx hk hn=>h3 x hx (λy hy=>?_) hn));rw [hno] at hy;exact hk y hy
  ·rename_i c ho;split at h
   case h_2=>exact uW h hg hd hi hs
   rename_i x0 s rest' hc;split at h
   ·rename_i e' hne;simp only [Option.some.injEq,Prod.mk.injEq] at h;obtain ⟨rfl,rfl⟩:=h;exact ⟨ah6 hne hg hd hi ho hc (hs s (List.mem_cons_self ..)),λt ht=>hs t (List.mem_cons_of_mem _ ht)⟩
   split at h
   case isFalse=>cases h
   rename_i hcond;obtain ⟨⟨hq,hlz⟩,lf,hf,hsg⟩:=hcond;have uX:=hs s (List.mem_cons_self ..);have hso:rI Φ P s:=by
    unfold aj at uX;unfold Site.q at hq;unfold Site.lz at hlz
    revert uX hq hlz
    cases s.md <;> intro hq hlz uX <;> simp at hq hlz <;> exact uX
   split at h
   case h_2=>cases h
   rename_i v need hv ha;simp only [Option.some.injEq,Prod.mk.injEq] at h;obtain ⟨rfl,rfl⟩:=h;refine ⟨λρ a w K hG hl hK=>?_,λt ht=>hs t (List.mem_cons_of_mem _ ht)⟩;have hw:=fW hg (bV hl);exact ahH hi hw ho hc (rQ lf (bi (bi hl))) hf hso hsg hv ha (bV (bi hl)) hG hd hK
  ·rename_i op ho1 ho2;split at h
   ·exact uW h hg hd hi hs
   split at h
   ·rename_i cs t r need hnew;split at h
    case isFalse=>cases h
    rename_i hcs;simp only [Option.some.injEq,Prod.mk.injEq] at h;obtain ⟨rfl,rfl⟩:=h;refine ⟨λρ a w K hG hl hK=>?_,hs⟩;have hw:=fW hg (bV hl);have hr:=ahz hnew (bi hl) (ρ.box k w.heap.size) k (by simp [Env.box]);refine kY hi hw (ρ.box k w.heap.size) (.c (.one (newAtom k r))) _ (.inl hr) (ahD k _ t) hG hd (λx hx=>?_) (λρ' a' w' h1 h2 h3=>hK ρ' a' w' h1 h2 (λx hx hk hn=>h3 x hx (λy hy=>hk y (by simpa using hy)) hn));obtain ⟨j,y,rfl,hj⟩:=rF hx;have hy:y.st≠some k:=by have:=List.all_eq_true.1 hcs y (List.mem_of_getElem? hj);simpa using this
    refine ⟨w.heap.size,by simp [Env.box],?_,oW _ _ _ _ (oZ (Nat.le_refl _))⟩;rw [World.cell?_alloc_new,KZ y hy];simp [hj]
   ·split at h
    case h_2=>exact uW h hg hd hi hs
    rename_i v need hp;simp only [Option.some.injEq,Prod.mk.injEq] at h;obtain ⟨rfl,rfl⟩:=h;refine ⟨λρ a w K hG hl hK=>?_,hs⟩;have hw:=fW hg (bV hl);have hr:=pure_ok hp (bi hl);refine kY hi hw ρ v w (.inl hr) (Lb k []) hG hd (add:=[]) (λx hx=>by cases hx) (λρ' a' w' h1 h2 h3=>hK ρ' a' w' h1 (λx hx=>h2 x (by simpa using hx)) (λx hx hk hn=>h3 x hx (λy hy=>hk y (by simpa using hy)) hn))
 ·cases h
end
def rR (P:Program) (ops:Array Oper) (n base:Nat):List Oper->Nat->List It->List Site->Option (List Eff×List Site)
 | [],_,_,ss=>some ([],ss)
 | o :: os,i,st,ss=>match uV P ops n st (base+i) ss o with
  | some (e,ss')=>match rR P ops n base os (i+1) (e.add ++ st.filter λx=>e.kill.all λy=>!x.hit y) ss' with
   | some (es,r)=>some (e :: es,r)
   | none=>none
  | none=>none
theorem Ad {P:Program}{Φ:Nat->World->Value->Prop}{X:Nat->Prop}{ops:Array Oper}{Q:Exit->Act->World->Prop}{W:World}{n base:Nat}:∀{os:List Oper}{i:Nat}{st:List It}{ss r:List Site}{es:List Eff},rR P ops n base os i st ss=some (es,r)->
  (∀j o,os[j]?=some o->ops[i+j]?=some o)->(∀s,s ∈ ss->aj Φ P s)->es.length=os.length∧(∀j e,es[j]?=some e->pI P Φ X ops Q W n (i+j) (base+(i+j)) e)∧∀s,s ∈ r->aj Φ P s
 | [],_,_,_,_,_,h,_,hs=>by simp only [rR,Option.some.injEq,Prod.mk.injEq] at h;obtain ⟨rfl,rfl⟩:=h;exact ⟨rfl,λj e hj=>by simp at hj,hs⟩
 | o :: os,i,st,ss,r,es,h,ho,hs=>by
  simp only [rR] at h;split at h
  case h_2=>cases h
  rename_i e ss' he;split at h
  case h_2=>cases h
  rename_i es' r' hes;simp only [Option.some.injEq,Prod.mk.injEq] at h;obtain ⟨rfl,rfl⟩:=h;obtain ⟨h1,h2⟩:=Ac (X:=X) (Q:=Q) (W:=W) he (ho 0 o rfl) hs;obtain ⟨h3,h4,h5⟩:=Ad (X:=X) (Q:=Q) (W:=W) hes (λj o' hj=>by rw [show i+1+j=i+(j+1) by omega];exact ho (j+1) o' (by simpa using hj)) h2;refine ⟨by simp [h3],λj e' hj=>?_,h5⟩;cases j with
  | zero=>simp at hj;subst hj;exact h1
  | succ j=>
   have:=h4 j e' (by simpa using hj)
   rwa [show i+1+j=i+(j+1) by omega] at this
def after (T:Array Nat) (i j:Nat):Bool:=(T.getD i 0).testBit j
def direct (ops:Array Oper) (i j:Nat):Bool:=((ops[i]?).map λo=>o.after.toList.any λe=>Region.binds .any e && e.on == j).getD false
def hits (es:List Eff) (m:Nat) (x:It):Bool:=((es[m]?).map λe=>e.kill.any λy=>x.hit y).getD false
def iD (T:Array Nat) (m:Nat):Option Nat->Bool
 | none=>false
 | some j=>j == m || after T j m
def rowOf (T:Array Nat):List Edge->Nat
 | []=>0
 | e :: l=>if Region.binds .any e then (2 ^ e.on ||| T.getD e.on 0) ||| rowOf T l else rowOf T l
def uY (T:Array Nat):List Oper->Nat->Bool
 | [],_=>true
 | o :: os,i=>(Nat.beq (T.getD i 0) (rowOf T o.after.toList) && o.after.toList.all λe=>!Region.binds .any e || Nat.blt e.on i) && uY T os (i+1)
def iE (t:Nat):Key->Bool
 | .slot u=>Nat.beq t u
 | _=>false
def slotsOf:List Key->Nat->Option Nat
 | [],s=>some s
 | .slot t :: l,s=>if s.testBit t then none else slotsOf l (s ||| 2 ^ t)
 | _ :: l,s=>slotsOf l s
def keysOf (i:Nat):List Key->List (Nat×Key)
 | []=>[]
 | .slot _ :: l=>keysOf i l
 | y :: l=>(i,y) :: keysOf i l
def iF:List Eff->Nat->List (Nat×Key)
 | [],_=>[]
 | e :: es,i=>keysOf i e.kill ++ iF es (i+1)
def nZ:List Eff->Nat->List (Nat×Key)
 | [],_=>[]
 | e :: es,i=>e.kill.map (Prod.mk i) ++ nZ es (i+1)
def It.adT:It->Bool
 | .slot _ _=>true
 | _=>false
def mG (T:Array Nat) (kn ka:List (Nat×Key)) (mask i:Nat) (o:Option Nat):It->Bool
 | .slot u v=>o.isSome || (!mask.testBit u || ka.all λq=>!(It.slot u v).hit q.2 || (Nat.beq q.1 i || after T q.1 i))
 | x=>kn.all λq=>!x.hit q.2 || (Nat.beq q.1 i || (after T q.1 i || iD T q.1 o))
def uZ (T:Array Nat) (kn:List (Nat×Key)) (mask:Nat) (o:Option Nat):It->Bool
 | .slot u _=>o.isSome || !mask.testBit u
 | x=>kn.all λq=>!x.hit q.2 || iD T q.1 o
def pO (ks:List Key):It->Bool
 | .slot u _=>ks.any (iE u)
 | _=>true
def Lp (T:Array Nat) (kn ka:List (Nat×Key)) (mask:Nat) (st:List It) (L:List (Nat×It)) (i t:Nat) (x:It):Bool:=
 cond x.adT ((L.any λp=>(p.2.beq x && t.testBit p.1) && mG T kn ka mask i (some p.1) x) || ((st.any λy=>y.beq x) && mG T kn ka mask i none x))
  (((st.any λy=>y.beq x) && mG T kn ka mask i none x) || (L.any λp=>(p.2.beq x && t.testBit p.1) && mG T kn ka mask i (some p.1) x))
def Lq (base i t:Nat) (x:It):Bool:=x.sts.all λs=>Nat.blt s base || (Nat.beq s (base+i) || (Nat.ble base s && t.testBit (s-base)))
def rS (T:Array Nat) (kn ka:List (Nat×Key)) (mask base:Nat) (st:List It):List Eff->Nat->List (Nat×It)->Option (List (Nat×It))
 | [],_,L=>some L
 | e :: es,i,L=>if e.need.all (Lp T kn ka mask st L i (T.getD i 0)) && e.add.all (λx=>pO e.kill x && Lq base i (T.getD i 0) x) then rS T kn ka mask base st es (i+1) (e.add.map (Prod.mk i) ++ L) else none
def Ae (T:Array Nat) (ops:List Oper) (base:Nat) (st:List It) (es:List Eff):Option (List It):=
 if uY T ops 0 && st.all (λx=>x.sts.all λs=>Nat.blt s base) then (match slotsOf (es.flatMap Eff.kill) 0 with
  | some mask=>(match rS T (iF es 0) (nZ es 0) mask base st es 0 [] with
   | some L=>some (((L.filter λp=>uZ T (iF es 0) mask (some p.1) p.2).map Prod.snd) ++ st.filter (uZ T (iF es 0) mask none))
   | none=>none)
  | none=>none) else none
section
variable (Φ:Nat->World->Value->Prop)(X:Nat->Prop)(W:World)(n:Nat)(st:List It)(es:List Eff)(T:Array Nat)
def src (D:Nat->Bool):Option Nat->It->Prop
 | none,x=>x ∈ st
 | some j,x=>D j=true∧∃e,es[j]?=some e∧x ∈ e.add
def pP (D:Nat->Bool) (a:Act) (w:World):Prop:=∃ρ,Good X W n ρ a w∧∀o x,src st es D o x->(∀m,D m=true->hits es m x=true->iD T m o=true)->x.holds Φ X ρ a w
end
def Closed (T:Array Nat) (N:Nat) (D:Nat->Bool):Prop:=∀i j,D i=true->after T i j=true->j<N->D j=true
def with' (D:Nat->Bool) (i:Nat):Nat->Bool:=λj=>j == i || D j
section
variable {P:Program}{ops:Array Oper}{Q:Exit->Act->World->Prop}{base N:Nat}{st:List It}{T:Array Nat}
structure Af (P:Program) (Φ:Nat->World->Value->Prop) (X:Nat->Prop) (ops:Array Oper) (Q:Exit->Act->World->Prop) (W:World) (n base N:Nat) (st:List It) (es:List Eff) (T:Array Nat):Prop where
 size:ops.size=N
 len:es.length=N
 each:∀i e,es[i]?=some e->pI P Φ X ops Q W n i (base+i) e
 down:∀i j,i<N->j<N->direct ops i j=true->j<i∧after T i j=true
 back:∀i j,i<N->j<N->after T i j=true->j<i∧(direct ops i j=true∨∃d,d<N∧direct ops i d=true∧after T d j=true)
 ah7:∀i j,direct ops i j=true->j<N
 old:∀x,x ∈ st->∀s,s ∈ x.sts->s<base
 need:∀i e,es[i]?=some e->∀x,x ∈ e.need->∃o,(match o with | none=>x ∈ st | some j=>j<N∧after T i j=true∧∃e',es[j]?=some e'∧x ∈ e'.add)∧∀m,m<N->hits es m x=true->m=i∨after T m i=true∨iD T m o=true
 add:∀i e,es[i]?=some e->∀x,x ∈ e.add->∀s,s ∈ x.sts->s<base∨s=base+i∨(base<=s∧after T i (s-base)=true)
theorem ah8 {x:It} (h:hits es m x=true):m<es.length:=by
 unfold hits at h;rcases Nat.lt_or_ge m es.length with h1 | h1
 ·exact h1
 ·rw [List.getElem?_eq_none h1] at h;simp at h
theorem ah9 (H:Af P Φ X ops Q W n base N st es T){D:Nat->Bool} (hi:i<N) (hD:D i=false) (oc:∀d,direct ops i d=true->D d=true) (hC:Closed T N D) :
  Closed T N (with' D i)∧∀a w,pP Φ X W n st es T D a w->wpOp P ops Q i (pP Φ X W n st es T (with' D i)) a w:=by
 have vd:∀j,after T i j=true->j<N->D j=true:=λj hj hjN=>by
  obtain ⟨_,h⟩:=H.back i j hi hjN hj;rcases h with h | ⟨d,hd,h1,h2⟩
  ·exact oc j h
  ·exact hC d j (oc d h1) h2 hjN
 refine ⟨λm j hm hj hjN=>?_,λa w ⟨ρ,hG,hinv⟩=>?_⟩
 ·simp only [with',Bool.or_eq_true,beq_iff_eq] at hm ⊢;rcases hm with rfl | hm
  ·exact .inr (vd j hj hjN)
  ·exact .inr (hC m j hm hj hjN)
 ·obtain ⟨e,he⟩:∃e,es[i]?=some e:=⟨es[i]'(by rw [H.len];exact hi),List.getElem?_eq_getElem _⟩;refine H.each i e he ρ a w _ hG (λx hx=>?_) (λρ' a' w' hG' hadd hkeep=>⟨ρ',hG',λo x hsrc hal=>?_⟩)
  ·obtain ⟨o,hso,hcl⟩:=H.need i e he x hx;refine hinv o x ?_ (λm hm hh=>?_)
   ·cases o with
    | none=>exact hso
    | some j=>
     obtain ⟨hjN,hj,e',he',hxe⟩:=hso;exact ⟨vd j hj hjN,e',he',hxe⟩
   ·have hmN:m<N:=by rw [<- H.len];exact ah8 hh
    rcases hcl m hmN hh with rfl | h | h
    ·rw [hD] at hm;cases hm
    ·have:=hC m i hm h hi;rw [hD] at this;cases this
    ·exact h
  ·by_cases ho:o=some i
   ·subst ho;obtain ⟨_,e',he',hx⟩:=hsrc;obtain rfl:e=e':=Option.some.inj (he.symm.trans he');exact hadd x hx
   ·have hsrc':src st es D o x:=by
     cases o with
     | none=>exact hsrc
     | some j=>
      obtain ⟨hj,h2⟩:=hsrc;refine ⟨?_,h2⟩;simp only [with',Bool.or_eq_true,beq_iff_eq] at hj;rcases hj with rfl | hj
      ·exact absurd rfl ho
      ·exact hj
    have hold:=hinv o x hsrc' (λm hm hh=>hal m (by simp [with',hm]) hh);refine hkeep x hold (λy hy=>?_) (λhs=>?_)
    ·cases hyx:x.hit y with
     | false=>rfl
     | true=>
      have hh:hits es i x=true:=by simp only [hits,he,Option.map_some,Option.getD_some,List.any_eq_true];exact ⟨y,hy,hyx⟩
      have hsp:=hal i (by simp [with']) hh;cases o with
      | none=>cases hsp
      | some j=>
       simp only [iD,Bool.or_eq_true,beq_iff_eq] at hsp;rcases hsp with rfl | hsp
       ·exact absurd rfl ho
       ·have:=hC j i hsrc'.1 hsp hi;rw [hD] at this;cases this
    ·cases o with
     | none=>
      have:=H.old x hsrc' _ hs;omega
     | some j=>
      obtain ⟨hDj,e',he',hx⟩:=hsrc';rcases H.add j e' he' x hx _ hs with h | h | ⟨h1,h2⟩
      ·omega
      ·have:j=i:=by omega
       exact ho (by rw [this])
      ·rw [show base+i-base=i by omega] at h2;have:=hC j i hDj h2 hi;rw [hD] at this;cases this
theorem aia (H:Af P Φ X ops Q W n base N st es T) (hQ:∀a w,pP Φ X W n st es T (λ_=>true) a w->Q .normal a w) :
  ∀(fuel:Nat) (listed:Array Bool),listed.size=N->(List.range N).countP (λj=>!listed.getD j false)<=fuel->Closed T N (λj=>listed.getD j false)->∀a w,pP Φ X W n st es T (λj=>listed.getD j false) a w->wpAny P .any ops Q fuel listed a w:=by
 have hfin:∀(listed:Array Bool),listed.size=N->Region.ready .any ops listed = []->∀a w,pP Φ X W n st es T (λj=>listed.getD j false) a w->Q .normal a w:=by
  intro listed hsz hr a w hinv;have hall:∀i,i<N->listed.getD i false=true:=by
   intro i
   induction i using Nat.strongRecOn with
   | _ i ih=>
    intro hi;cases hl:listed.getD i false with
    | true=>rfl
    | false=>
     have:i ∈ Region.ready .any ops listed:=by
      refine mem_ready.2 ⟨?_,?_⟩
      ·rw [Array.getD_eq_getD_getElem?] at hl ⊢;rw [Array.getElem?_eq_getElem (by omega)] at hl ⊢;exact hl
      ·obtain ⟨o,ho⟩:∃o,ops[i]?=some o:=⟨ops[i]'(by rw [H.size];exact hi),Array.getElem?_eq_getElem _⟩;refine ⟨o,ho,λe he hb=>?_⟩;have hd:direct ops i e.on=true:=by
        simp only [direct,ho,Option.map_some,Option.getD_some,List.any_eq_true,Bool.and_eq_true,beq_iff_eq];exact ⟨e,by simpa using he,hb,rfl⟩
       have h1:=H.ah7 i _ hd;have h2:=(H.down i _ hi h1 hd).1;exact ih _ h2 h1
     rw [hr] at this;cases this
  obtain ⟨ρ,hG,hx⟩:=hinv;refine hQ a w ⟨ρ,hG,λo x hs hal=>hx o x ?_ (λm hm hh=>hal m rfl hh)⟩;cases o with
  | none=>exact hs
  | some j=>
   obtain ⟨_,e,he,h⟩:=hs;exact ⟨hall j (by rw [<- H.len];exact (List.getElem?_eq_some_iff.1 he).1),e,he,h⟩
 intro fuel
 induction fuel with
 | zero=>
  intro listed hsz hcnt hC a w hinv;have hr:Region.ready .any ops listed = []:=by
   cases hr:Region.ready .any ops listed with
   | nil=>rfl
   | cons i l=>
    exfalso;have hm:i ∈ Region.ready .any ops listed:=by rw [hr];simp
    obtain ⟨h1,o,ho,_⟩:=mem_ready.1 hm;have hi:i<N:=by rw [<- H.size];exact (Array.getElem?_eq_some_iff.1 ho).1
    have h2:listed.getD i false=false:=by rw [Array.getD_eq_getD_getElem?] at h1 ⊢;rw [Array.getElem?_eq_getElem (by omega)] at h1 ⊢;exact h1
    have h0:=List.countP_eq_zero.1 (Nat.le_zero.1 hcnt) i (by simpa using hi);rw [h2] at h0;exact h0 rfl
  exact ⟨hr,hfin listed hsz hr a w hinv⟩
 | succ fuel ih=>
  intro listed hsz hcnt hC a w hinv;refine ⟨λhr=>hfin listed hsz hr a w hinv,λi hm=>?_⟩;obtain ⟨h1,o,ho,vd⟩:=mem_ready.1 hm;have hi:i<N:=by rw [<- H.size];exact (Array.getElem?_eq_some_iff.1 ho).1
  have h2:listed.getD i false=false:=by rw [Array.getD_eq_getD_getElem?] at h1 ⊢;rw [Array.getElem?_eq_getElem (by omega)] at h1 ⊢;exact h1
  have oc:∀d,direct ops i d=true->listed.getD d false=true:=λd hd=>by simp only [direct,ho,Option.map_some,Option.getD_some,List.any_eq_true,Bool.and_eq_true,beq_iff_eq] at hd;obtain ⟨e,he,hb,rfl⟩:=hd;exact vd e (by simpa using he) hb
  obtain ⟨hC',hstep⟩:=ah9 H (D:=λj=>listed.getD j false) hi h2 oc hC;have hset:(λj=>(listed.setIfInBounds i true).getD j false)=with' (λj=>listed.getD j false) i:=by
   funext j;by_cases hj:i=j
   ·subst hj;simp [with',Array.getD_eq_getD_getElem?,hsz,hi]
   ·simp [with',getD_set_ne false hj,Ne.symm hj]
  refine wpOp_mono (λa' w' h=>ih (listed.setIfInBounds i true) (by simpa using hsz) ?_ (by rw [hset];exact hC') a' w' (by rw [hset];exact h)) (hstep a w hinv);have hlt:(List.range N).countP (λj=>!(listed.setIfInBounds i true).getD j false)<(List.range N).countP (λj=>!listed.getD j false):=by
   have hmem:i ∈ List.range N:=by simpa using hi
   obtain ⟨l1,l2,hl⟩:=List.append_of_mem hmem;have hle:∀l:List Nat,l.countP (λj=>!(listed.setIfInBounds i true).getD j false)<=l.countP (λj=>!listed.getD j false):=λl=>
    List.countP_mono_left λj _ hj=>by have:=congrFun hset j;rw [this] at hj;simp only [with',Bool.not_or,Bool.and_eq_true] at hj;exact hj.2
   rw [hl,List.countP_append,List.countP_append,List.countP_cons,List.countP_cons];have e1:(!(listed.setIfInBounds i true).getD i false)=false:=by have:=congrFun hset i;rw [this];simp [with']
   have e2:(!listed.getD i false)=true:=by rw [h2];rfl
   rw [e1,e2];have:=hle l1;have:=hle l2;simp only [Bool.false_eq_true,if_false,if_true];omega
  omega
end
theorem rT {x:It}{l:List It} (h:l.any (λy=>y.beq x)=true):x ∈ l:=by obtain ⟨y,hy,e⟩:=List.any_eq_true.1 h;rw [<- It.dK e];exact hy
theorem Ag {T:Array Nat}{j:Nat}:∀{l:List Edge},(rowOf T l).testBit j=true ↔ ∃e,e ∈ l∧Region.binds .any e=true∧(e.on=j∨after T e.on j=true)
 | []=>by simp [rowOf]
 | e :: l=>by
  have ih:=Ag (T:=T) (j:=j) (l:=l);unfold rowOf;cases hb:Region.binds .any e with
  | false=>
   simp only [Bool.false_eq_true,if_false,ih,List.mem_cons];exact ⟨λ⟨f,h1,h2⟩=>⟨f,.inr h1,h2⟩,λ⟨f,h1,h2,h3⟩=>h1.elim (λh=>by rw [h,hb] at h2;cases h2) λh=>⟨f,h,h2,h3⟩⟩
  | true=>
   simp only [if_true,Nat.testBit_or,Bool.or_eq_true,Nat.testBit_two_pow,decide_eq_true_eq,ih,List.mem_cons];constructor
   ·rintro ((h | h) | ⟨f,h1,h2⟩)
    ·exact ⟨e,.inl rfl,hb,.inl h⟩
    ·exact ⟨e,.inl rfl,hb,.inr h⟩
    ·exact ⟨f,.inr h1,h2⟩
   ·rintro ⟨f,h1 | h1,h2,h3⟩
    ·subst h1;exact .inl h3
    ·exact .inr ⟨f,h1,h2,h3⟩
theorem Lr {T:Array Nat}:∀{os:List Oper}{i:Nat},uY T os i=true->∀(j:Nat) (o:Oper),os[j]?=some o->T.getD (i+j) 0=rowOf T o.after.toList∧∀e,e ∈ o.after.toList->Region.binds .any e=true->e.on<i+j
 | [],_,_,j,o,h=>by simp at h
 | o' :: os,i,h,j,o,hj=>by
  simp only [uY,Bool.and_eq_true] at h;cases j with
  | zero=>
   simp at hj;subst hj;refine ⟨Nat.eq_of_beq_eq_true h.1.1,λe he hb=>?_⟩;have:=List.all_eq_true.1 h.1.2 e he;rw [hb] at this;simpa [Nat.blt_eq] using this
  | succ j=>
   simp at hj;have:=Lr h.2 j o hj
   rwa [show i+1+j=i+(j+1) by omega] at this
theorem Ah:∀{l m:List Key}{s r:Nat},slotsOf (l ++ m) s=some r->∃s1,slotsOf l s=some s1∧slotsOf m s1=some r
 | [],_,s,_,h=>⟨s,rfl,h⟩
 | k :: l,m,s,r,h=>by
  cases k with
  | slot t=>
   simp only [List.cons_append,slotsOf] at h ⊢;split at h
   ·cases h
   ·rename_i hb;rw [if_neg hb];exact Ah h
  | _=>exact Ah (l:=l) (m:=m) h
theorem mH {t:Nat}:∀{l:List Key}{s r:Nat},slotsOf l s=some r->(s.testBit t=true->l.any (iE t)=false)∧((s.testBit t=true∨l.any (iE t)=true)->r.testBit t=true)
 | [],s,r,h=>by simp only [slotsOf,Option.some.injEq] at h;subst h;simp
 | k :: l,s,r,h=>by
  cases k with
  | slot u=>
   simp only [slotsOf] at h;split at h
   ·cases h
   ·rename_i hb;obtain ⟨h1,h2⟩:=mH (t:=t) h;simp only [Nat.testBit_or,Bool.or_eq_true,Nat.testBit_two_pow,decide_eq_true_eq] at h1 h2;refine ⟨λhs=>?_,λho=>?_⟩
    ·have hu:Nat.beq t u=false:=by
      cases hq:Nat.beq t u with
      | false=>rfl
      | true=>exact absurd (Nat.eq_of_beq_eq_true hq▸hs) hb
     simp only [List.any_cons,iE,hu,Bool.false_or];exact h1 (.inl hs)
    ·rcases ho with ho | ho
     ·exact h2 (.inl (.inl ho))
     ·simp only [List.any_cons,iE,Bool.or_eq_true] at ho;rcases ho with ho | ho
      ·exact h2 (.inl (.inr (Nat.eq_of_beq_eq_true ho).symm))
      ·exact h2 (.inr ho)
  | _=>
   obtain ⟨h1,h2⟩:=mH (t:=t) (l:=l) (s:=s) (r:=r) h;exact ⟨λhs=>by simpa [iE] using h1 hs,λho=>h2 (by simpa [iE] using ho)⟩
theorem ve {t:Nat}{e:Eff} (h:es[m]?=some e) (hk:e.kill.any (iE t)=true):(es.flatMap Eff.kill).any (iE t)=true:=by rw [List.any_eq_true] at hk ⊢;obtain ⟨y,hy,hk⟩:=hk;exact ⟨y,List.mem_flatMap.2 ⟨e,List.mem_of_getElem? h,hy⟩,hk⟩
theorem adU {t:Nat}:∀{es:List Eff}{s r i j:Nat}{e e':Eff},slotsOf (es.flatMap Eff.kill) s=some r->es[i]?=some e->es[j]?=some e'->e.kill.any (iE t)=true->e'.kill.any (iE t)=true->i=j
 | [],_,_,_,_,_,_,_,hi,_,_,_=>by simp at hi
 | f :: es,s,r,i,j,e,e',h,hi,hj,hk,hk'=>by
  rw [List.flatMap_cons] at h;obtain ⟨s1,h1,h2⟩:=Ah h;cases i with
  | zero=>
   cases j with
   | zero=>rfl
   | succ j=>
    simp at hi hj;subst hi;have:=(mH (t:=t) h2).1 ((mH h1).2 (.inr hk));rw [ve hj hk'] at this;cases this
  | succ i=>
   cases j with
   | zero=>
    simp at hi hj;subst hj;have:=(mH (t:=t) h2).1 ((mH h1).2 (.inr hk'));rw [ve hi hk] at this;cases this
   | succ j=>
    simp at hi hj;exact congrArg Nat.succ (adU h2 hi hj hk hk')
theorem Ls {i:Nat}{y:Key} (hy:∀t,y≠.slot t):∀{l:List Key},y ∈ l->(i,y) ∈ keysOf i l
 | k :: l,h=>by
  rcases List.mem_cons.1 h with rfl | h
  ·cases y with
   | slot t=>exact absurd rfl (hy t)
   | _=>exact List.mem_cons_self ..
  ·have:=Ls (i:=i) hy h;cases k with
   | slot t=>exact this
   | _=>exact List.mem_cons_of_mem _ this
theorem Lt {y:Key} (hy:∀t,y≠.slot t):∀{es:List Eff}{i m:Nat}{e:Eff},es[m]?=some e->y ∈ e.kill->(i+m,y) ∈ iF es i
 | [],_,_,_,h,_=>by simp at h
 | f :: es,i,m,e,h,hk=>by
  cases m with
  | zero=>
   simp at h;subst h;exact List.mem_append_left _ (Ls hy hk)
  | succ m=>
   simp at h;have:=Lt hy (i:=i+1) h hk;rw [show i+1+m=i+(m+1) by omega] at this;exact List.mem_append_right _ this
theorem Lu {y:Key}:∀{es:List Eff}{i m:Nat}{e:Eff},es[m]?=some e->y ∈ e.kill->(i+m,y) ∈ nZ es i
 | [],_,_,_,h,_=>by simp at h
 | f :: es,i,m,e,h,hk=>by
  cases m with
  | zero=>
   simp at h;subst h;exact List.mem_append_left _ (List.mem_map.2 ⟨y,hk,rfl⟩)
  | succ m=>
   simp at h;have:=Lu (i:=i+1) h hk;rw [show i+1+m=i+(m+1) by omega] at this;exact List.mem_append_right _ this
theorem Aj {x:It} (h:hits es m x=true):∃e y,es[m]?=some e∧y ∈ e.kill∧x.hit y=true:=by
 unfold hits at h;cases hm:es[m]? with
 | none=>simp [hm] at h
 | some e=>
  simp only [hm,Option.map_some,Option.getD_some,List.any_eq_true] at h;obtain ⟨y,h1,h2⟩:=h;exact ⟨e,y,rfl,h1,h2⟩
theorem Lv {u:Nat}{v:SV} (h:hits es m (.slot u v)=true):∃e,es[m]?=some e∧e.kill.any (iE u)=true:=by obtain ⟨e,y,h1,h2,h3⟩:=Aj h;refine ⟨e,h1,List.any_eq_true.2 ⟨y,h2,?_⟩⟩;cases y <;> simp_all [It.hit,iE]
theorem Lw {x:It} (hx:x.adT=false) (h:hits es m x=true):∃y,(m,y) ∈ iF es 0∧x.hit y=true:=by
 obtain ⟨e,y,h1,h2,h3⟩:=Aj h;have hy:∀t,y≠.slot t:=λt ht=>by subst ht;cases x <;> simp_all [It.hit,It.adT]
 exact ⟨y,by simpa using Lt (i:=0) hy h1 h2,h3⟩
section
variable {T:Array Nat}{mask:Nat}(hm:slotsOf (es.flatMap Eff.kill) 0=some mask)
include hm
theorem LA {o:Option Nat}{x:It} (h:mG T (iF es 0) (nZ es 0) mask i o x=true) (ho:∀j,o=some j->∃e,es[j]?=some e∧pO e.kill x=true) (m:Nat) (hh:hits es m x=true):m=i∨after T m i=true∨iD T m o=true:=by
 cases hx:x.adT with
 | false=>
  obtain ⟨y,h1,h2⟩:=Lw hx hh;have h3:(iF es 0).all (λq=>!x.hit q.2 || (Nat.beq q.1 i || (after T q.1 i || iD T q.1 o)))=true:=by cases x <;> first | exact h | cases hx
  have:=List.all_eq_true.1 h3 _ h1;simp only [h2,Bool.not_true,Bool.false_or,Bool.or_eq_true] at this;exact this.imp Nat.eq_of_beq_eq_true id
 | true=>
  cases x with
  | slot u v=>
   obtain ⟨e,h1,h2⟩:=Lv hh;cases o with
   | none=>
    have h5:=(mH (t:=u) hm).2 (.inr (ve h1 h2));simp only [mG,h5,Option.isSome_none,Bool.not_true,Bool.false_or] at h;obtain ⟨e,y,h6,h7,h8⟩:=Aj hh;have:=List.all_eq_true.1 h (m,y) (by simpa using Lu (i:=0) h6 h7);simp only [h8,Bool.not_true,Bool.false_or,Bool.or_eq_true] at this;exact this.elim (λe=>.inl (Nat.eq_of_beq_eq_true e)) λe=>.inr (.inl e)
   | some j=>
    obtain ⟨e',h3,h4⟩:=ho j rfl;have:=adU hm h1 h3 h2 h4;exact .inr (.inr (by simp [iD,this]))
  | _=>cases hx
theorem LB {o:Option Nat}{x:It} (h:uZ T (iF es 0) mask o x=true) (ho:∀j,o=some j->∃e,es[j]?=some e∧pO e.kill x=true) (m:Nat) (hh:hits es m x=true):iD T m o=true:=by
 cases hx:x.adT with
 | false=>
  obtain ⟨y,h1,h2⟩:=Lw hx hh;have h3:(iF es 0).all (λq=>!x.hit q.2 || iD T q.1 o)=true:=by cases x <;> first | exact h | cases hx
  have:=List.all_eq_true.1 h3 _ h1;simpa only [h2,Bool.not_true,Bool.false_or] using this
 | true=>
  cases x with
  | slot u v=>
   obtain ⟨e,h1,h2⟩:=Lv hh;cases o with
   | none=>
    have:=(mH (t:=u) hm).2 (.inr (ve h1 h2));simp [uZ,this] at h
   | some j=>
    obtain ⟨e',h3,h4⟩:=ho j rfl;have:=adU hm h1 h3 h2 h4;simp [iD,this]
  | _=>cases hx
def LD (es:List Eff) (T:Array Nat) (st:List It) (base i:Nat) (e:Eff):Prop:=
 (∀x,x ∈ e.need->∃o,(match o with | none=>x ∈ st | some j=>j<es.length∧after T i j=true∧∃e',es[j]?=some e'∧x ∈ e'.add)∧∀m,hits es m x=true->m=i∨after T m i=true∨iD T m o=true)∧∀x,x ∈ e.add->∀s,s ∈ x.sts->s<base∨s=base+i∨(base<=s∧after T i (s-base)=true)
theorem LE {st:List It}{base:Nat}:∀{fs:List Eff}{i:Nat}{L L':List (Nat×It)},rS T (iF es 0) (nZ es 0) mask base st fs i L=some L'->(∀j e,fs[j]?=some e->es[i+j]?=some e)->
  (∀p,p ∈ L->∃e,es[p.1]?=some e∧p.2 ∈ e.add∧pO e.kill p.2=true)->(∀j e,fs[j]?=some e->LD es T st base (i+j) e)∧∀p,p ∈ L'->∃e,es[p.1]?=some e∧p.2 ∈ e.add∧pO e.kill p.2=true
 | [],_,_,_,h,_,hL=>by simp only [rS,Option.some.injEq] at h;subst h;exact ⟨λj e hj=>by simp at hj,hL⟩
 | f :: fs,i,L,L',h,hf,hL=>by
  simp only [rS] at h;split at h
  case isFalse=>cases h
  rename_i hc;simp only [Bool.and_eq_true] at hc;have hf0:es[i]?=some f:=hf 0 f rfl;have hadd:∀x,x ∈ f.add->pO f.kill x=true∧Lq base i (T.getD i 0) x=true:=λx hx=>by have:=List.all_eq_true.1 hc.2 x hx;simpa only [Bool.and_eq_true] using this
  obtain ⟨h1,h2⟩:=LE h (λj e hj=>by rw [show i+1+j=i+(j+1) by omega];exact hf (j+1) e (by simpa using hj)) (λp hp=>by
   rcases List.mem_append.1 hp with hp | hp
   ·obtain ⟨x,hx,rfl⟩:=List.mem_map.1 hp;exact ⟨f,hf0,hx,(hadd x hx).1⟩
   ·exact hL p hp)
  refine ⟨λj e hj=>?_,h2⟩;cases j with
  | succ j=>
   have:=h1 j e (by simpa using hj)
   rwa [show i+1+j=i+(j+1) by omega] at this
  | zero=>
   simp at hj;subst hj;refine ⟨λx hx=>?_,λx hx s hs=>?_⟩
   ·have hn:=List.all_eq_true.1 hc.1 x hx;have key:((L.any λp=>(p.2.beq x && (T.getD i 0).testBit p.1) && mG T (iF es 0) (nZ es 0) mask i (some p.1) x)=true)∨(((st.any λy=>y.beq x) && mG T (iF es 0) (nZ es 0) mask i none x)=true):=by
     unfold Lp at hn;cases hs:x.adT with
     | true=>rw [hs] at hn;exact Bool.or_eq_true _ _▸hn
     | false=>rw [hs] at hn;exact (Bool.or_eq_true _ _▸hn:_∨_).symm
    rcases key with k | k
    ·obtain ⟨p,hp,k⟩:=List.any_eq_true.1 k;simp only [Bool.and_eq_true] at k;obtain ⟨e',h3,h4,h5⟩:=hL p hp;have he:p.2=x:=It.dK k.1.1;rw [he] at h4 h5;exact ⟨some p.1,⟨(List.getElem?_eq_some_iff.1 h3).1,k.1.2,e',h3,h4⟩,LA hm k.2 λj hj=>by cases hj;exact ⟨e',h3,h5⟩⟩
    ·simp only [Bool.and_eq_true] at k;exact ⟨none,rT k.1,LA hm k.2 λj hj=>by cases hj⟩
   ·have:=List.all_eq_true.1 (hadd x hx).2 s hs;simp only [Bool.or_eq_true,Bool.and_eq_true,Nat.blt_eq,Nat.ble_eq] at this;exact this.imp id (Or.imp Nat.eq_of_beq_eq_true id)
end
section
variable {P:Program}{ops:Array Oper}{Q:Exit->Act->World->Prop}{base N:Nat}{st:List It}{T:Array Nat}
theorem aib {st':List It} (h:Ae T ops.toList base st es=some st') (hN:ops.size=N) (hl:es.length=N) (ho:∀i e,es[i]?=some e->pI P Φ X ops Q W n i (base+i) e) :
  Af P Φ X ops Q W n base N st es T∧∀x,x ∈ st'->∃o,(match o with | none=>x ∈ st | some j=>∃e,es[j]?=some e∧x ∈ e.add)∧∀m,hits es m x=true->iD T m o=true:=by
 unfold Ae at h;split at h
 case isFalse=>cases h
 rename_i hc;simp only [Bool.and_eq_true] at hc;split at h
 case h_2=>cases h
 rename_i mask hm;split at h
 case h_2=>cases h
 rename_i L hL;simp only [Option.some.injEq] at h;subst h;obtain ⟨h1,h2⟩:=LE hm hL (λj e hj=>by simpa using hj) (λp hp=>by cases hp);have hrow:∀i o,ops[i]?=some o->T.getD i 0=rowOf T o.after.toList∧∀e,e ∈ o.after.toList->Region.binds .any e=true->e.on<i:=λi o hi=>by have:=Lr hc.1 i o (by simpa using hi);simpa using this
 have oc:∀i j,direct ops i j=true->∃o e,ops[i]?=some o∧e ∈ o.after.toList∧Region.binds .any e=true∧e.on=j:=λi j hd=>by
  unfold direct at hd;cases hi:ops[i]? with
  | none=>simp [hi] at hd
  | some o=>
   simp only [hi,Option.map_some,Option.getD_some,List.any_eq_true,Bool.and_eq_true,beq_iff_eq] at hd;obtain ⟨e,he,hb,hj⟩:=hd;exact ⟨o,e,rfl,he,hb,hj⟩
 have LG:∀i j,direct ops i j=true->j<i∧after T i j=true:=λi j hd=>by obtain ⟨o,e,hi,he,hb,rfl⟩:=oc i j hd;obtain ⟨h3,h4⟩:=hrow i o hi;refine ⟨h4 e he hb,?_⟩;unfold after;rw [h3];exact Ag.2 ⟨e,he,hb,.inl rfl⟩
 have hback:∀i,i<N->∀j,after T i j=true->j<i∧(direct ops i j=true∨∃d,d<N∧direct ops i d=true∧after T d j=true):=by
  intro i
  induction i using Nat.strongRecOn with
  | _ i ih=>
   intro hi j hj;obtain ⟨o,hio⟩:∃o,ops[i]?=some o:=⟨ops[i]'(by rw [hN];exact hi),Array.getElem?_eq_getElem _⟩;obtain ⟨h3,h4⟩:=hrow i o hio;unfold after at hj;rw [h3] at hj;obtain ⟨e,he,hb,h5⟩:=Ag.1 hj;have hd:∀k,e.on=k->direct ops i k=true:=λk hk=>by simp only [direct,hio,Option.map_some,Option.getD_some,List.any_eq_true,Bool.and_eq_true,beq_iff_eq];exact ⟨e,he,hb,hk⟩
   have hlt:=h4 e he hb;rcases h5 with h5 | h5
   ·exact ⟨h5▸hlt,.inl (hd j h5)⟩
   ·have:=(ih e.on hlt (by omega) j h5).1;exact ⟨by omega,.inr ⟨e.on,by omega,hd _ rfl,h5⟩⟩
 have hE:∀i e,es[i]?=some e->LD es T st base i e:=λi e he=>by simpa using h1 i e he
 refine ⟨⟨hN,hl,ho,λi j _ _=>LG i j,λi j hi _=>hback i hi j,λi j hd=>?_,λx hx s hs=>?_,λi e he x hx=>?_,λi e he=>(hE i e he).2⟩,λx hx=>?_⟩
 ·obtain ⟨o,e,hi,-⟩:=oc i j hd;have h3:=(LG i j hd).1;have h4:=(Array.getElem?_eq_some_iff.1 hi).1;omega
 ·have:=List.all_eq_true.1 (List.all_eq_true.1 hc.2 x hx) s hs;simpa [Nat.blt_eq] using this
 ·obtain ⟨o,h3,h4⟩:=(hE i e he).1 x hx;rw [hl] at h3;exact ⟨o,h3,λm _ hh=>h4 m hh⟩
 ·rcases List.mem_append.1 hx with hx | hx
  ·obtain ⟨p,hp,rfl⟩:=List.mem_map.1 hx;rw [List.mem_filter] at hp;obtain ⟨e,h3,h4,h5⟩:=h2 p hp.1;exact ⟨some p.1,⟨e,h3,h4⟩,LB hm hp.2 λj hj=>by cases hj;exact ⟨e,h3,h5⟩⟩
  ·rw [List.mem_filter] at hx;exact ⟨none,hx.1,LB hm hx.2 λj hj=>by cases hj⟩
end
def rU (P:Program) (ops:Array Oper) (n base:Nat):List Oper->Nat->List It->List Site->Option (List It×List Site)
 | [],_,st,ss=>some (st,ss)
 | o :: os,i,st,ss=>match uV P ops n st (base+i) ss o with
  | some (e,ss')=>if e.need.all (λx=>st.any λy=>y.beq x) && e.add.all (λx=>x.sts.all λs=>decide (s<base+(i+1))) then rU P ops n base os (i+1) (e.add ++ st.filter λx=>e.kill.all λy=>!x.hit y) ss' else none
  | none=>none
def vf (P:Program) (n base:Nat) (ops:Array Oper) (draw:Bool) (st:List It) (ss:List Site):Option (List It×List Site):=
 if draw then (match rR P ops n base ops.toList 0 st ss with
 | some (es,r)=>(match Ae (Region.before ops) ops.toList base st es with
  | some st'=>some (st',r)
  | none=>none)
 | none=>none) else if st.all (λx=>x.sts.all λs=>decide (s<base)) then rU P ops n base ops.toList 0 st ss else none
def dr (Φ:Nat->World->Value->Prop) (X:Nat->Prop) (W:World) (n:Nat) (st:List It) (a:Act) (w:World):Prop:=∃ρ,Good X W n ρ a w∧∀x,x ∈ st->x.holds Φ X ρ a w
theorem aic {st:List It} (h:dr Φ X W n st a w):dr Φ X W n st a { w with drawn:=w.drawn+1 }:=by
 obtain ⟨ρ,hG,hx⟩:=h;have hs:eE X W n 0 [] ρ w ρ w.drew:=.of (λ_ _=>rfl) (λ_ _=>rfl) (λa h=>⟨h.defers,h.size,bf h.grown (ec w none),h.inj,h.lo,h.old,h.loose,h.apart,h.one,h.far⟩) (λ_ _ _ _ _ _ h1 h2=>⟨h1,h2⟩) (Off.grown (ec w none)) (λ_ j _ h=>⟨j,h⟩) rfl;refine ⟨ρ,hs.good a hG,λx hx'=>?_⟩;have h:=hx x hx';cases x with
 | slot t v=>exact h
 | cell k o y=>exact h
 | fact y p=>exact λw' hw=>h w' (hs.off.trans hw (λ_ _ h=>h))
 | held J y p=>exact λw' hw=>h w' ((hs.tight J λy hy=>by cases hy).trans hw (λ_ _ h=>h))
 | lo j y=>exact h
 | eo J y=>exact h
section
variable {P:Program}{base:Nat}
theorem LH {ops:Array Oper}:∀{os:List Oper}{i:Nat}{st st':List It}{ss r:List Site},rU P ops n base os i st ss=some (st',r)->(∀j o,os[j]?=some o->ops[i+j]?=some o)->(∀s,s ∈ ss->aj Φ P s)->(∀x,x ∈ st->∀s,s ∈ x.sts->s<base+i)->
  (∀s,s ∈ r->aj Φ P s)∧∀Q:Exit->Act->World->Prop,(∀a w,dr Φ X W n st' a w->Q .normal a w)->∀a w,dr Φ X W n st a w->wpOps P ops Q (List.range' i os.length) a w
 | [],_,_,_,_,_,h,_,hs,_=>by simp only [rU,Option.some.injEq,Prod.mk.injEq] at h;obtain ⟨rfl,rfl⟩:=h;exact ⟨hs,λQ hQ a w hK=>hQ a w hK⟩
 | o :: os,i,st,st',ss,r,h,ho,hs,hold=>by
  simp only [rU] at h;split at h
  case h_2=>cases h
  rename_i e ss' he;split at h
  case isFalse=>cases h
  rename_i hc;simp only [Bool.and_eq_true] at hc;have hb:∀x,x ∈ e.add->∀s,s ∈ x.sts->s<base+(i+1):=λx hx s hs=>by simpa using List.all_eq_true.1 (List.all_eq_true.1 hc.2 x hx) s hs
  have h2:=(Ac (X:=X) (Q:=λ_ _ _=>True) (W:=W) he (ho 0 o rfl) hs).2;obtain ⟨h3,h4⟩:=LH h (λj o' hj=>by rw [show i+1+j=i+(j+1) by omega];exact ho (j+1) o' (by simpa using hj)) h2 (λx hx s hs=>by
   rcases List.mem_append.1 hx with hx | hx
   ·exact hb x hx s hs
   ·have:=hold x (List.mem_filter.1 hx).1 s hs;omega)
  refine ⟨h3,λQ hQ a w ⟨ρ,hG,hx⟩=>?_⟩;rw [List.length_cons,List.range'_succ,wpOps_cons];refine (Ac (X:=X) (Q:=Q) (W:=W) he (ho 0 o rfl) hs).1 ρ a w _ hG (λx hn=>hx x (rT (List.all_eq_true.1 hc.1 x hn))) (λρ' a' w' hG' hadd hkeep=>h4 Q hQ a' w' ⟨ρ',hG',λx hx'=>?_⟩);rcases List.mem_append.1 hx' with h5 | h5
  ·exact hadd x h5
  ·rw [List.mem_filter] at h5;refine hkeep x (hx x h5.1) (λy hy=>?_) (λhs'=>?_)
   ·have:=List.all_eq_true.1 h5.2 y hy;simpa using this
   ·have:=hold x h5.1 _ hs';omega
theorem aid {ops:Array Oper}{st st':List It}{r:List Site}{id:Nat}{draw:Bool} (h:vf P n base ops draw st ss=some (st',r)) (hm:draw=true->P.follows .mixedOrders=true) (hs:∀s,s ∈ ss->aj Φ P s) :
  (∀s,s ∈ r->aj Φ P s)∧∀Q:Exit->Act->World->Prop,(∀a w,dr Φ X W n st' a w->Q .normal a w)->∀a w,dr Φ X W n st a w->(Code.region id ops draw).wp P Q a w:=by
 unfold vf at h;cases draw with
 | false=>
  simp only [Bool.false_eq_true,if_false] at h;split at h
  case isFalse=>cases h
  rename_i hst;obtain ⟨h1,h2⟩:=LH (Φ:=Φ) (X:=X) (W:=W) h (λj o hj=>by simpa using hj) hs (λx hx s hs=>by simpa using List.all_eq_true.1 (List.all_eq_true.1 hst x hx) s hs);refine ⟨h1,λQ hQ a w hK=>wp_region ?_⟩;rw [List.range_eq_range'];have:=h2 Q hQ a w hK
  rwa [Array.length_toList] at this
 | true=>
  simp only [if_true] at h;split at h
  case h_2=>cases h
  rename_i es r' he;split at h
  case h_2=>cases h
  rename_i st1 hok;simp only [Option.some.injEq,Prod.mk.injEq] at h;obtain ⟨rfl,rfl⟩:=h;refine ⟨(Ad (X:=X) (Q:=λ_ _ _=>True) (W:=W) he (λj o hj=>by simpa using hj) hs).2.2,λQ hQ a w hK=>?_⟩;obtain ⟨h1,h2,_⟩:=Ad (X:=X) (Q:=Q) (W:=W) he (λj o hj=>by simpa using hj) hs;obtain ⟨H,hst'⟩:=aib (Q:=Q) hok rfl (by simpa using h1) (λi e hi=>by have:=h2 i e hi;simpa using this);have hfin:∀a w,pP Φ X W n st es (Region.before ops) (λ_=>true) a w->Q .normal a w:=λa w ⟨ρ,hG,hx⟩=>by
   refine hQ a w ⟨ρ,hG,λx hx'=>?_⟩;obtain ⟨o,h3,h4⟩:=hst' x hx';refine hx o x ?_ (λm _ hh=>h4 m hh);cases o with
   | none=>exact h3
   | some j=>exact ⟨rfl,h3⟩
  refine wp_region_any (hm rfl) ?_;have hf:∀j,(Array.replicate ops.size false).getD j false=false:=λj=>by rw [Array.getD_eq_getD_getElem?,Array.getElem?_replicate];split <;> rfl
  refine aia H hfin ops.size _ (by simp) ?_ (λi j hi=>?_) a _ ?_
  ·exact Nat.le_trans List.countP_le_length (by simp)
  ·have hi':=hf i;simp only at hi;rw [hi'] at hi;cases hi
  ·obtain ⟨ρ,hG,hx⟩:=aic hK;refine ⟨ρ,hG,λo x hs _=>?_⟩;cases o with
   | none=>exact hx x hs
   | some j=>
    have h5:(Array.replicate ops.size false).getD j false=true:=hs.1;rw [hf] at h5;cases h5
end
inductive Ex where
 | normal | exit (id:Nat) | ret
def Ex.to:Ex->Exit
 | .normal=>.normal
 | .exit id=>.exit id
 | .ret=>.ret
def run (P:Program) (n:Nat):Code->List It->Nat->List Site->Option (Ex×List It×Nat×List Site)
 | .skip,st,k,ss=>some (.normal,st,k,ss)
 | .label _,st,k,ss=>some (.normal,st,k,ss)
 | .region _ ops draw,st,k,ss=>if !draw || P.follows .mixedOrders then (match vf P n k ops draw st ss with
  | some (st',r)=>some (.normal,st',k+ops.size,r)
  | none=>none) else none
 | .seq a b,st,k,ss=>match run P n a st k ss with
  | some (.normal,st',k',ss')=>run P n b st' k' ss'
  | r=>r
 | .cond c t e,st,k,ss=>match val st c with
  | some (.c (.one (.cb b)),_)=>if b then run P n t st k ss else run P n e st k ss
  | _=>none
 | .block id c,st,k,ss=>match run P n c st k ss with
  | some (.exit j,st',k',ss')=>some (if j=id then .normal else .exit j,st',k',ss')
  | r=>r
 | .exit id,st,k,ss=>some (.exit id,st,k,ss)
 | .ret,st,k,ss=>some (.ret,st,k,ss)
 | _,_,_,_=>none
theorem jb {t:Nat}{v:SV}:∀{st:List It},fU st t=some v->It.slot t v ∈ st
 | .slot u x :: l,h=>by
  simp only [fU] at h;split at h
  ·rename_i e;simp at e h;subst e;subst h;simp
  ·exact List.mem_cons_of_mem _ (jb h)
 | .cell _ _ _ :: l,h=>List.mem_cons_of_mem _ (jb (st:=l) h)
 | .fact _ _ :: l,h=>List.mem_cons_of_mem _ (jb (st:=l) h)
 | .held _ _ _ :: l,h=>List.mem_cons_of_mem _ (jb (st:=l) h)
 | .lo _ _ :: l,h=>List.mem_cons_of_mem _ (jb (st:=l) h)
 | .eo _ _ :: l,h=>List.mem_cons_of_mem _ (jb (st:=l) h)
theorem aie {st:List It}{v:SV}{l:List It} (h:val st x=some (v,l)):∀y,y ∈ l->y ∈ st:=by
 cases x with
 | tmp t=>
  simp only [val] at h;cases hs:fU st t with
  | none=>simp [hs] at h
  | some u=>
   simp [hs] at h;obtain ⟨rfl,rfl⟩:=h;intro y hy;simp at hy;subst hy;exact jb hs
 | const u=>
  simp only [val] at h;cases hs:pG u with
  | none=>simp [hs] at h
  | some y=>simp [hs] at h;rw [h.2];simp
 | global g=>simp [val] at h
 | func f=>
  simp only [val,Option.some.injEq,Prod.mk.injEq] at h;obtain ⟨rfl,rfl⟩:=h;intro y hy;cases hy
section
variable {P:Program}
end
def nC (P:Program) (st:List It):ResultVar->Option C
 | .tmp t=>match fU st t with
  | some (.c x)=>some x
  | _=>none
 | .cell t ty=>match fU st t with
  | some (.c (.one (.ptr k o)))=>(mw P st ty k o).map (·.1)
  | _=>none
def pQ (y:C) (p:Nat):It->Bool
 | .fact x q=>q == p && x.beq y
 | .held _ x q=>q == p && x.beq y
 | _=>false
theorem Ak {st:List It} (h:st.any (pQ y p)=true) (hx:∀x,x ∈ st->x.holds Φ X ρ a w):∀w1,Off X w w1->Φ p w1 (y.ev ρ):=by
 obtain ⟨z,hz,hb⟩:=List.any_eq_true.1 h;have hz':=hx z hz;intro w1 hw;cases z <;> simp only [pQ,Bool.and_eq_true,beq_iff_eq,Bool.false_eq_true] at hb
 ·obtain ⟨rfl,e⟩:=hb;rw [<- C.dK e];exact hz' w1 (hw.wide λ_ h=>.inl h)
 ·obtain ⟨rfl,e⟩:=hb;rw [<- C.dK e];exact hz' w1 (hw.wide λ_ h=>.inl h)
def nE (st:List It):List C->List Out->Bool
 | [],[]=>true
 | c :: cs,o :: os=>pH c o.sh && o.fs.all (λq=>st.any (pQ (bM q.1 q.2.1 c) q.2.2)) && nE st cs os
 | _,_=>false
def Am (k:Nat):Nat->Nat->List Out->List It
 | _,_,[]=>[]
 | j,c,o :: os=>.slot j (.c (o.sh.comp k c)) :: Am k (j+1) (c+o.sh.len) os
def start (ins:List Out):List It:=Am 0 0 0 ins ++ facts 0 0 ins
section
variable {P:Program}
theorem An {st:List It}:∀{n o:Nat}{l:List Atom},fB st k o n=some l->∀y,y ∈ fC k o l->y ∈ st:=by
 have hf:∀{st:List It}{k o:Nat}{a:Atom},findCell st k o=some a->It.cell k o a ∈ st:=by
  intro st
  induction st with
  | nil=>intro k o a h;simp [findCell] at h
  | cons x l ih=>
   intro k o a h;cases x with
   | slot t v=>exact List.mem_cons_of_mem _ (ih h)
   | fact y p=>exact List.mem_cons_of_mem _ (ih h)
   | held J y p=>exact List.mem_cons_of_mem _ (ih h)
   | lo j y=>exact List.mem_cons_of_mem _ (ih h)
   | eo J y=>exact List.mem_cons_of_mem _ (ih h)
   | cell k' o' a'=>
    simp only [findCell] at h;split at h
    ·rename_i e;simp at e h;obtain ⟨rfl,rfl⟩:=e;subst h;simp
    ·exact List.mem_cons_of_mem _ (ih h)
 intro n
 induction n with
 | zero=>intro o l h;simp [fB] at h;subst h;intro y hy;cases hy
 | succ n ih=>
  intro o l h;simp only [fB] at h;split at h
  ·rename_i a l' h1 h2;simp at h;subst h;intro y hy;rcases List.mem_cons.1 hy with rfl | hy
   ·exact hf h1
   ·exact ih h2 y hy
  ·cases h
theorem aif {st:List It}{t o:Nat}{x:C}{l:List It} (h:mw P st t k o=some (x,l)):∀y,y ∈ l->y ∈ st:=by
 unfold mw at h;split at h
 ·rename_i n _ _;cases hc:fB st k o n with
  | none=>simp [hc] at h
  | some cs=>simp [hc] at h;obtain ⟨_,rfl⟩:=h;exact An hc
 ·cases hc:findCell st k o with
  | none=>simp [hc] at h
  | some a=>
   simp [hc] at h;obtain ⟨_,rfl⟩:=h;refine An (n:=1) (l:=[a]) ?_;simp [fB,hc]
 ·cases h
def vg (tmps:Array Value):ResultVar->Sem Value
 | .tmp t=>pure (tmps.getD t undef)
 | .cell b t=>do loadVar t (<- asAddr (tmps.getD b undef))
theorem GD (fn:Func) (tmps:Array Value):results fn tmps=(do let vs <- fn.results.mapM (vg tmps);pure (if h:vs.size=1 then vs[0] else .tuple vs)):=by unfold results;congr 1
theorem yj {st:List It}{ρ:Env}{a:Act}{w:World} (hx:∀x,x ∈ st->x.holds Φ X ρ a w):∀{rs:List ResultVar}{cs:List C},rs.mapM (nC P st)=some cs->
  (rs.mapM (vg a.tmps)).run P w = .ok (cs.map (C.ev ρ)) w
 | [],cs,h=>by simp at h;subst h;simp
 | r :: rs,cs,h=>by
  simp only [List.mapM_cons,Option.bind_eq_bind,Option.pure_def] at h;cases hr:nC P st r with
  | none=>simp [hr] at h
  | some c=>
   cases hrs:rs.mapM (nC P st) with
   | none=>simp [hr,hrs] at h
   | some cs'=>
    simp [hr,hrs] at h;subst h;have ih:=yj hx hrs;have h1:(vg a.tmps r).run P w = .ok (c.ev ρ) w:=by
     cases r with
     | tmp t=>
      simp only [nC] at hr;split at hr
      ·rename_i y hs;simp at hr;subst hr;have:a.tmps.getD t undef=(SV.c y).ev ρ:=uJ (hx _ (jb hs));simp only [vg,this,SV.ev,Sem.run_pure]
      ·cases hr
     | cell b t=>
      simp only [nC] at hr;split at hr
      ·rename_i k o hs;cases hl:mw P st t k o with
       | none=>simp [hl] at hr
       | some q=>
        simp [hl] at hr;subst hr;have h2:a.tmps.getD b undef=(Atom.ptr k o).ev ρ:=uJ (v:=(SV.c (.one (.ptr k o))).ev ρ) (hx _ (jb hs));have h3:=KP (P:=P) (x:=q.1) (l:=q.2) hl (λy hy=>hx y (aif (x:=q.1) (l:=q.2) hl y hy));show (do loadVar t (<- asAddr (a.tmps.getD b undef)):Sem Value).run P w=_;rw [h2];simp only [Instr.loadAt,Atom.ev,Instr.sureAddr,Sem.run_bind,Sem.run_pure,Result.andThen_ok] at h3;simp only [Atom.ev,asAddr,Sem.run_bind,Sem.run_pure,Result.andThen_ok,h3]
      ·cases hr
    simp only [List.mapM_cons,Sem.run_bind,h1,Result.andThen_ok,ih,Sem.run_pure,List.map_cons]
theorem yk {st:List It}{ρ:Env}{a:Act}{w:World} (hx:∀x,x ∈ st->x.holds Φ X ρ a w):∀{cs:List C}{os:List Out},nE st cs os=true->cG Φ X w os (cs.map (C.ev ρ))
 | [],[],_=>trivial
 | c :: cs,o :: os,h=>by
  simp only [nE,Bool.and_eq_true] at h;refine ⟨⟨uR h.1.1 ρ,λq hq w1 hw=>?_⟩,yk hx h.2⟩;have:=Ak (List.all_eq_true.1 h.1.2 q hq) hx w1 hw
  rwa [nT] at this
 | [],_ :: _,h=>by simp [nE] at h
 | _ :: _,[],h=>by simp [nE] at h
theorem cG.length {w:World}:∀{os:List Out}{us:List Value},cG Φ X w os us->us.length=os.length
 | [],[],_=>rfl
 | _ :: _,_ :: _,h=>by simp [cG.length h.2]
 | [],_ :: _,h=>h.elim
 | _ :: _,[],h=>h.elim
theorem yi (k:Nat):∀{os:List Out}{j c:Nat}{x:It},x ∈ Am k j c os->∃m y,x = .slot (j+m) (.c y)∧(mB k c os)[m]?=some y
 | [],_,_,_,h=>by cases h
 | o :: os,j,c,x,h=>by
  rcases List.mem_cons.1 h with rfl | h
  ·exact ⟨0,_,rfl,rfl⟩
  ·obtain ⟨m,y,h1,h2⟩:=yi k h;exact ⟨m+1,y,by rw [h1,show j+1+m=j+(m+1) by omega],by simpa [mB] using h2⟩
end
inductive gS where
 | slot (t:Nat) | cell (b o:Nat)
 | two (t u:Tmp)
inductive LC where
 | one (i:Nat) | agg (l:List Nat)
inductive Src where
 | frm (p:Nat) | closed (x:C) | own (p j:Nat)
inductive LF where
 | cM (J:List Nat) (p:Nat) | lo (j:Nat)
instance (n : Nat) : OfNat LF n := ⟨.cM [] n⟩
def LF.pr (Ψ:Nat->World->Value->Prop):LF->World->Value->Prop
 | .cM _ p=>Ψ p
 | .lo _=>λ_ _=>True
def LF.item (x:C):LF->It
 | .cM J p=>nX J x p
 | .lo j=>match x with
  | .one a=>.lo j a
  | .agg _=>.lo j .nl
def LF.zN:LF->List Nat
 | .cM J _=>J
 | .lo _=>[]
structure bp where
 keep:List Nat
 vars:List (gS×Sh)
 facts:List (LC×LF)
 init:List Src
 m:Nat
 post:List (Nat×Nat)
inductive Step where
 | base (s:Site)
 | loop (d:bp) (rounds:List (List Step×List Src)) (out:List Step)
 | rounds (m:Nat)
 | derive (y:C) (sh:cC) (fs:List (Nat×Nat×Nat)) (p:Nat)
 | freed (y:C) (p q:Nat)
 | swap (i j:Nat)
 | shut (j:Nat)
 | narrow (j:Nat) (v i p s:Atom) (q q':Nat)
 | release (b sz:Nat) (fs:List (Nat×Nat×Nat)) (q:Nat)
variable {l:List Step}
def fX (i j k:Nat):Nat:=if k=i then j else if k=j then i else k
theorem rV (i j k:Nat):fX i j (fX i j k)=k:=by
 unfold fX;split
 ·split
  ·omega
  ·rw [if_pos rfl];omega
 ·split
  ·rw [if_pos rfl];omega
  ·first | rfl | (split <;> first | omega | (split <;> omega))
def It.sw (i j:Nat):It->It
 | .held J x p=>.held (J.map (fX i j)) x p
 | .lo k a=>.lo (fX i j k) a
 | .eo J a=>.eo (J.map (fX i j)) a
 | x=>x
def It.cl (j:Nat):It->Option It
 | .held J x p=>some (.held (J.filter λk=>k != j) x p)
 | .lo k a=>if k=j then none else some (.lo k a)
 | .eo J a=>if J.contains j then none else some (.eo J a)
 | x=>some x
def It.rel (b:Nat):It->Option It
 | .slot t v=>if v.beq (.c (.one (.ptr b 0))) then some (.slot t (.c (.one (.p b 0)))) else if v.sts.contains b then none else some (.slot t v)
 | x=>if x.sts.contains b then none else some x
def It.nr (j:Nat) (v:Atom):It->Option It
 | .lo k a=>if k=j && !(a.beq v) then none else some (.lo k a)
 | .eo J a=>if J.contains j then none else some (.eo J a)
 | x=>some x
def vh (st:List It):gS->Option Atom
 | .slot t=>match fU st t with
  | some (.c (.one y))=>some y
  | _=>none
 | .cell b o=>findCell st b o
 | .two t u=>match fU st t,fU st u with
  | some (.c (.one y)),some (.c (.one z))=>if y.beq z then some y else none
  | _,_=>none
def lh (x:Atom):gS->List It
 | .slot t=>[.slot t (.c (.one x))]
 | .cell b o=>[.cell b o x]
 | .two t u=>[.slot t (.c (.one x)),.slot u (.c (.one x))]
def LC.sel (l:List Atom):LC->C
 | .one i=>.one (l.getD i .un)
 | .agg js=>.agg (js.map λi=>l.getD i .un)
def li (k:Nat):Nat->List (gS×Sh)->List Atom
 | _,[]=>[]
 | c,v :: vs=>v.2.atom k c :: li k (c+1) vs
def Ao (k:Nat):Nat->List (gS×Sh)->List It
 | _,[]=>[]
 | c,v :: vs=>lh (v.2.atom k c) v.1 ++ Ao k (c+1) vs
def isVar (d:bp) (k:Key):Bool:=d.vars.any λv=>(lh .un v.1).any (·.hit k)
def Aq (d:bp):It->Bool
 | .slot t _=>d.keep.contains t && !isVar d (.slot t)
 | .cell b o _=>!isVar d (.cell b o)
 | .fact _ p=>decide (p<d.m)
 | .held J _ p=>decide (p<d.m) && J.all λj=>!d.facts.any λf=>f.2.zN.contains j
 | .lo j _=>!d.facts.any λf=>match f.2 with
  | .lo i=>i == j
  | _=>false
 | .eo _ _=>true
def kept (d:bp) (st:List It):List It:=st.filter (Aq d)
def rW (d:bp) (st:List It) (k:Nat):List It:=
 Ao k 0 d.vars ++ (d.facts.map λf=>f.2.item (f.1.sel (li k 0 d.vars))) ++ kept d st
def varsOf (st:List It):List (gS×Sh)->Option (List Atom)
 | []=>some []
 | v :: vs=>match vh st v.1,varsOf st vs with
  | some y,some ys=>if nV y v.2 && v.2.good then some (y :: ys) else none
  | _,_=>none
def pR (J:List Nat) (y:C) (p:Nat) (z:It):Bool:=z.beq (.fact y p) || rM J y p z
def LF.aig:LF->Bool
 | .cM _ _=>true
 | .lo _=>false
def LF.LI (st:List It) (y:C) (p:Nat):LF->Bool
 | .cM J _=>st.any (pR J y p)
 | .lo j=>match y with
  | .one a=>a.beq .nl || st.any (λz=>z.beq (.lo j a))
  | .agg _=>true
def LF.LJ (st:List It) (y:C) (p j:Nat):LF->Bool
 | .cM J _=>J.contains j && (st.any (pQ y p) && match y with
  | .one a=>st.any (λz=>z.beq (.lo j a))
  | .agg _=>false)
 | .lo _=>false
def lj (st:List It) (ys:List Atom):List (LC×LF)->List Src->Bool
 | [],[]=>true
 | f :: fs,.frm p :: ss=>f.2.LI st (f.1.sel ys) p && lj st ys fs ss
 | f :: fs,.closed x :: ss=>x.beq (f.1.sel ys) && x.sts.isEmpty && f.2.aig && lj st ys fs ss
 | f :: fs,.own p j :: ss=>f.2.LJ st (f.1.sel ys) p j && lj st ys fs ss
 | _,_=>false
def vi (d:bp) (st st0:List It) (k:Nat) (ss:List Src):Bool:=
 (kept d st0).all (λx=>st.any (λy=>y.beq x) && !x.sts.contains k) && match varsOf st d.vars with
 | some ys=>lj st ys d.facts ss
 | none=>false
def vj (d:bp) (st:List It):List It:=st.filterMap fun
 | .fact x p=>if p<d.m then some (.fact x p) else (d.post.find? λq=>q.1 == p).map λq=>.fact x q.2
 | .held J x p=>if p<d.m then some (.held J x p) else (d.post.find? λq=>q.1 == p).map λq=>.held J x q.2
 | x=>some x
def bases:List Step->List Site×List Step
 | .base s :: l=>let r:=bases l;(s :: r.1,r.2)
 | l=>([],l)
section
variable (P:Program)
def lk (Φ Ψ:Nat->World->Value->Prop):List (LC×LF)->List Src->Prop
 | [],[]=>True
 | f :: fs,.frm p :: ss=>(∀w v,Φ p w v->f.2.pr Ψ w v)∧lk Φ Ψ fs ss
 | f :: fs,.closed x :: ss=>(∀w,f.2.pr Ψ w (x.ev da))∧lk Φ Ψ fs ss
 | f :: fs,.own p _ :: ss=>(∀w w1 v,Φ p w v->Kp w w1->(∀g,blk v=some g->w1.heap[g]?=w.heap[g]?)->f.2.pr Ψ w1 v)∧lk Φ Ψ fs ss
 | _,_=>False
inductive cH:(Nat->World->Value->Prop)->Step->Prop where
 | rounds {Φ:Nat->World->Value->Prop}{m:Nat}:cH Φ (.rounds m)
 | derive {Φ:Nat->World->Value->Prop}{y:C}{sh:cC}{fs:List (Nat×Nat×Nat)}{p:Nat} (h:∀(X:Nat->Prop) (w:World) (v:Value),(Arg.parts sh fs).ok Φ X w v->(Arg.fact p).ok Φ X w v):cH Φ (.derive y sh fs p)
 | freed {Φ:Nat->World->Value->Prop}{y:C}{p q:Nat} (h:∀(w w':World) (v:Value),Φ p w v->Φ q w' v):cH Φ (.freed y p q)
 | swap {Φ:Nat->World->Value->Prop}{i j:Nat}:cH Φ (.swap i j)
 | shut {Φ:Nat->World->Value->Prop}{j:Nat}:cH Φ (.shut j)
 | narrow {Φ:Nat->World->Value->Prop}{j:Nat}{v i p s:Atom}{q q':Nat} (h:∀(X:Nat->Prop) (w:World) (v i p s:Value),(∀w1,Off X w w1->Φ q w1 (.agg #[v,i,p,s]))->∀w1,Off (λk=>X k∨blk v=some k) w w1->Φ q' w1 s):cH Φ (.narrow j v i p s q q')
 | release {Φ:Nat->World->Value->Prop}{b sz:Nat}{fs:List (Nat×Nat×Nat)}{q:Nat} (h:∀(w:World) (B:Nat) (l:List Value),l.length=sz->(∀(i:Nat) (u:Value),l[i]?=some u->w.cell? ⟨B,i,none⟩=some u)->(∀f,f ∈ fs->Φ f.2.2 w (bS f.1 f.2.1 (.agg l.toArray)))->Φ q w (.pointer (some ⟨B,0,none⟩))):cH Φ (.release b sz fs q)
 | base {Φ:Nat->World->Value->Prop}{s:Site} (h:aj Φ P s):cH Φ (.base s)
 | loop {Φ:Nat->World->Value->Prop}{d:bp}{rounds:List (List Step×List Src)}{out:List Step} (J:Type) (Ψ:J->Nat->World->Value->Prop) (μ:J->Nat) (go:J->Prop) (j0:J) (pick:J->Nat) (nx:J->J)
   (hΨ:∀j p,p<d.m->Ψ j p=Φ p) (h0:lk Φ (Ψ j0) d.facts d.init)
   (hp:∀j,go j->pick j<rounds.length) (hμ:∀j,go j->μ (nx j)<μ j)
   (hn:∀j,go j->∀r,rounds[pick j]?=some r->lk (Ψ j) (Ψ (nx j)) d.facts r.2)
   (hs:∀j,go j->∀r,rounds[pick j]?=some r->∀t,t ∈ r.1->cH (Ψ j) t)
   (ho:∀j,¬go j->∀t,t ∈ out->cH (Ψ j) t)
   (hpost:∀j,¬go j->∀q,q ∈ d.post->∀w v,Ψ j q.1 w v->Φ q.2 w v):cH Φ (.loop d rounds out)
end
def aih (st:List It) (y:C) (p:Nat):List Nat:=if st.any (λz=>z.beq (.fact y p)) then [] else match st.find? (pQ y p) with
 | some (.held J _ _)=>J
 | _=>[]
theorem vk {st:List It}{J:List Nat} (h:st.any (pR J y p)=true) (hx:∀x,x ∈ st->x.holds Φ X ρ a w):∀w1,Off (co J X ρ) w w1->Φ p w1 (y.ev ρ):=by
 obtain ⟨z,hz,hb⟩:=List.any_eq_true.1 h;have hz':=hx z hz;simp only [pR,Bool.or_eq_true] at hb;rcases hb with hb | hb
 ·rw [It.dK hb] at hz';exact λw1 hw=>hz' w1 (hw.wide λ_ h=>h.own)
 ·cases z with
  | held J' x q=>
   simp only [rM,Bool.and_eq_true,beq_iff_eq,List.all_eq_true,List.contains_eq_mem,decide_eq_true_eq] at hb;obtain ⟨rfl,hx,hJ⟩:=hb;rw [<- C.dK hx];exact λw1 hw=>hz' w1 (hw.wide λ_ h=>h.less hJ)
  | _=>cases hb
def fY (st:List It):List Step->Option (List It×List Step)
 | .derive y sh fs p :: l=>let J:=fs.flatMap λq=>aih st (bM q.1 q.2.1 y) q.2.2
  if pH y sh && fs.all (λq=>st.any (pR J (bM q.1 q.2.1 y) q.2.2)) then fY (nX J y p :: st) l else none
 | .freed y p q :: l=>if st.any (pQ y p) then fY (.fact y q :: st) l else none
 | .swap i j :: l=>if 2<=i∧2<=j then fY (st.map (It.sw i j)) l else none
 | .shut j :: l=>fY (st.filterMap (It.cl j)) l
 | .release b sz fs q :: l=>match fB st b 0 sz with
  | some c=>if sz≠0∧fs.all (λf=>st.any (pR [] (bM f.1 f.2.1 (.agg c)) f.2.2))=true then fY (.fact (.one (.p b 0)) q :: st.filterMap (It.rel b)) l else none
  | none=>none
 | .narrow j v i p s q q' :: l=>if st.any (pR [j] (.agg [v,i,p,s]) q) then fY (.fact (.one s) q' :: st.filterMap (It.nr j v)) l else none
 | l=>some (st,l)
def vm (f:List It->Nat->List Step->Option (Ex×List It×Nat×List Step)):Nat->List It->Nat->List Step->Option (Ex×List It×Nat×List Step)
 | 0,_,_,_=>none
 | m+1,st,k,ss=>match f st k ss with
  | some (.normal,st',k',ss')=>vm f m st' k' ss'
  | r=>r
def ek (P:Program) (n:Nat):Code->List It->Nat->List Step->Option (Ex×List It×Nat×List Step)
 | .skip,st,k,ss=>some (.normal,st,k,ss)
 | .label _,st,k,ss=>some (.normal,st,k,ss)
 | .region _ ops draw,st,k,ss=>if !draw || P.follows .mixedOrders then (match fY st ss with
  | some (st1,ss1)=>(match vf P n k ops draw st1 (bases ss1).1 with
   | some (st',r)=>some (.normal,st',k+ops.size,r.map Step.base ++ (bases ss1).2)
   | none=>none)
  | none=>none) else none
 | .seq a b,st,k,ss=>match ek P n a st k ss with
  | some (.normal,st',k',ss')=>ek P n b st' k' ss'
  | r=>r
 | .cond c t e,st,k,ss=>match val st c with
  | some (.c (.one (.cb b)),_)=>if b then ek P n t st k ss else ek P n e st k ss
  | _=>none
 | .block id c,st,k,ss=>match ek P n c st k ss with
  | some (.exit j,st',k',ss')=>some (if j=id then .normal else .exit j,st',k',ss')
  | r=>r
 | .exit id,st,k,ss=>some (.exit id,st,k,ss)
 | .ret,st,k,ss=>some (.ret,st,k,ss)
 | .loop c,st,k,ss=>match ss with
  | .loop d rounds out :: rest=>
   if vi d st st k d.init && rounds.all (λr=>match ek P n c (rW d st k) (k+1) r.1 with
    | some (.normal,st2,_,_)=>vi d st2 st k r.2
    | _=>false) then
    match ek P n c (rW d st k) (k+1) out with
    | some (.exit j,ll,k3,_)=>some (.exit j,vj d ll,k3,rest)
    | some (.ret,ll,k3,_)=>some (.ret,vj d ll,k3,rest)
    | _=>none
   else none
  | .rounds m :: rest=>vm (λst k ss=>ek P n c st k ss) m st k rest
  | _=>none
 | _,_,_,_=>none
theorem od {k o:Nat}{a:Atom}:∀{st:List It},findCell st k o=some a->It.cell k o a ∈ st
 | .slot _ _ :: l,h=>List.mem_cons_of_mem _ (od (st:=l) h)
 | .fact _ _ :: l,h=>List.mem_cons_of_mem _ (od (st:=l) h)
 | .held _ _ _ :: l,h=>List.mem_cons_of_mem _ (od (st:=l) h)
 | .lo _ _ :: l,h=>List.mem_cons_of_mem _ (od (st:=l) h)
 | .eo _ _ :: l,h=>List.mem_cons_of_mem _ (od (st:=l) h)
 | .cell k' o' a' :: l,h=>by
  simp only [findCell] at h;split at h
  ·rename_i e;simp at e h;obtain ⟨rfl,rfl⟩:=e;subst h;simp
  ·exact List.mem_cons_of_mem _ (od h)
theorem aii {st:List It}{p:gS}{y:Atom} (h:vh st p=some y):∀z,z ∈ lh y p->z ∈ st:=λz hz=>by
 cases p with
 | slot t=>
  obtain rfl:=List.mem_singleton.1 hz;clear hz;simp only [vh] at h;split at h
  ·rename_i z1 h1;simp only [Option.some.injEq] at h;subst h;exact jb h1
  ·cases h
 | cell b o=>
  obtain rfl:=List.mem_singleton.1 hz;exact od h
 | two t u=>
  simp only [vh] at h;split at h
  case h_2=>cases h
  rename_i y1 z1 h1 h2;split at h
  case isFalse=>cases h
  rename_i e;simp only [Option.some.injEq] at h;subst h;have e':=Atom.dK e;subst e';simp only [lh,List.mem_cons,List.not_mem_nil,or_false] at hz;rcases hz with rfl | rfl
  ·exact jb h1
  ·exact jb h2
theorem LK {P:Program}{Φ:Nat->World->Value->Prop}:∀{l:List Step},(∀s,s ∈ l->cH P Φ s)->(∀s,s ∈ (bases l).1->aj Φ P s)∧∀s,s ∈ (bases l).2->cH P Φ s
 | [],_=>⟨λs hs=>by simp [bases] at hs,λs hs=>by simp [bases] at hs⟩
 | .base s :: l,h=>by
  obtain ⟨h1,h2⟩:=LK (l:=l) (λt ht=>h t (List.mem_cons_of_mem _ ht));refine ⟨λt ht=>?_,h2⟩;simp only [bases,List.mem_cons] at ht;rcases ht with rfl | ht
  ·cases h _ (List.mem_cons_self ..) with
   | base h=>exact h
  ·exact h1 t ht
 | .loop d r o :: l,h=>⟨λs hs=>by simp [bases] at hs,λs hs=>h s (by simpa [bases] using hs)⟩
 | .rounds m :: l,h=>⟨λs hs=>by simp [bases] at hs,λs hs=>h s (by simpa [bases] using hs)⟩
 | .freed y p q :: l,h=>⟨λs hs=>by simp [bases] at hs,λs hs=>h s (by simpa [bases] using hs)⟩
 | .swap i j :: l,h=>⟨λs hs=>by simp [bases] at hs,λs hs=>h s (by simpa [bases] using hs)⟩
 | .release b sz fs q :: l,h=>⟨λs hs=>by simp [bases] at hs,λs hs=>h s (by simpa [bases] using hs)⟩
 | .shut j :: l,h=>⟨λs hs=>by simp [bases] at hs,λs hs=>h s (by simpa [bases] using hs)⟩
 | .narrow j v i p s q q' :: l,h=>⟨λs hs=>by simp [bases] at hs,λs hs=>h s (by simpa [bases] using hs)⟩
 | .derive y sh fs p :: l,h=>⟨λs hs=>by simp [bases] at hs,λs hs=>h s (by simpa [bases] using hs)⟩
section
variable {P:Program}
theorem LL {st:List It}:∀{vs:List (gS×Sh)}{ys:List Atom},varsOf st vs=some ys->ys.length=vs.length∧∀(i:Nat) (v:gS×Sh),vs[i]?=some v->∃y:Atom,ys[i]?=some y∧(∀z,z ∈ lh y v.1->z ∈ st)∧nV y v.2=true∧v.2.good=true
 | [],ys,h=>by simp [varsOf] at h;subst h;simp
 | v :: vs,ys,h=>by
  simp only [varsOf] at h;split at h
  ·rename_i y ys' h1 h2;split at h
   ·rename_i hf;simp only [Option.some.injEq] at h;subst h;obtain ⟨h3,h4⟩:=LL h2;refine ⟨by simp [h3],λi u hi=>?_⟩;cases i with
    | zero=>
     simp at hi;subst hi;simp only [Bool.and_eq_true] at hf;exact ⟨y,rfl,aii h1,hf.1,hf.2⟩
    | succ i=>simp at hi;simpa using h4 i u hi
   ·cases h
  ·cases h
theorem LM {k:Nat}:∀{vs:List (gS×Sh)}{c i:Nat}{v:gS×Sh},vs[i]?=some v->(li k c vs)[i]?=some (v.2.atom k (c+i))
 | v :: vs,c,0,u,h=>by simp at h;subst h;rfl
 | v :: vs,c,i+1,u,h=>by have:=LM (k:=k) (c:=c+1) (i:=i) (vs:=vs) (v:=u) (by simpa using h);simpa [li,show c+1+i=c+(i+1) by omega] using this
theorem LN {k:Nat}:∀{vs:List (gS×Sh)}{c:Nat},(li k c vs).length=vs.length
 | [],_=>rfl
 | _ :: vs,c=>by simp [li,LN]
theorem LO {k:Nat}:∀{vs:List (gS×Sh)}{c:Nat}{x:It},x ∈ Ao k c vs->∃(i:Nat) (v:gS×Sh),vs[i]?=some v∧x ∈ lh (v.2.atom k (c+i)) v.1
 | [],_,_,h=>by cases h
 | v :: vs,c,x,h=>by
  rcases List.mem_append.1 h with h | h
  ·exact ⟨0,v,rfl,h⟩
  ·obtain ⟨i,u,h1,h2⟩:=LO h;exact ⟨i+1,u,by simpa using h1,by rw [show c+(i+1)=c+1+i by omega];exact h2⟩
theorem LP {d:bp}{st st0:List It}{ss:List Src} (h:vi d st st0 k ss=true) (hm:∀p,p<d.m->Φ p=Ψ p) (hs:lk Φ Ψ d.facts ss) (hK:dr Φ X W n st a w):dr Ψ X W n (rW d st0 k) a w:=by
 obtain ⟨ρ,hG,hx⟩:=hK;simp only [vi,Bool.and_eq_true] at h;obtain ⟨hk,h⟩:=h;split at h
 case h_2=>cases h
 rename_i ys hys;obtain ⟨hlen,hv⟩:=LL hys;have hstep:eE X W n k [] ρ w (ρ.put k (ys.map (Atom.ev ρ))) w:=mC k (bH w none);have hat:∀(i:Nat) (v:gS×Sh),d.vars[i]?=some v->∃y:Atom,ys[i]?=some y∧(∀z,z ∈ lh y v.1->z ∈ st)∧(v.2.atom k (0+i)).ev (ρ.put k (ys.map (Atom.ev ρ)))=y.ev ρ:=λi v hi=>by obtain ⟨y,h1,h2,h3,h4⟩:=hv i v hi;refine ⟨y,h1,h2,Sh.ev (zU h3 ρ) h4 ?_⟩;simp [h1]
 have hev:∀i,((li k 0 d.vars).getD i .un).ev (ρ.put k (ys.map (Atom.ev ρ)))=(ys.getD i .un).ev ρ:=λi=>by
  rw [List.getD_eq_getElem?_getD,List.getD_eq_getElem?_getD];cases hi:d.vars[i]? with
  | none=>
   have hle:d.vars.length<=i:=List.getElem?_eq_none_iff.1 hi;rw [List.getElem?_eq_none (by rw [LN];exact hle),List.getElem?_eq_none (by rw [hlen];exact hle)];rfl
  | some v=>
   obtain ⟨y,h1,_,h3⟩:=hat i v hi;rw [LM hi,h1];exact h3
 have hsel:∀f:LC,(f.sel (li k 0 d.vars)).ev (ρ.put k (ys.map (Atom.ev ρ)))=(f.sel ys).ev ρ:=λf=>by
  cases f with
  | one i=>exact hev i
  | agg js=>
   simp only [LC.sel,C.ev,List.map_map];congr 2;exact List.map_congr_left λi _=>hev i
 have hown:∀m,Own X (ρ.put k (ys.map (Atom.ev ρ))) m->Own X ρ m:=λm h=>h;refine ⟨_,hstep.good a hG,λx hx'=>?_⟩;rcases List.mem_append.1 hx' with hx' | hx'
 ·rcases List.mem_append.1 hx' with hx' | hx'
  ·obtain ⟨i,v,hi,hxv⟩:=LO hx';obtain ⟨y,_,h2,h3⟩:=hat i v hi;have h2':∀z,z ∈ lh y v.1->z.holds Φ X ρ a w:=λz hz=>hx _ (h2 z hz)
   revert h2' h3 hxv
   generalize v.2.atom k (0+i)=z;have hsl:∀t,z.ev (ρ.put k (ys.map (Atom.ev ρ)))=y.ev ρ->(It.slot t (.c (.one y))).holds Φ X ρ a w->(It.slot t (.c (.one z))).holds Ψ X (ρ.put k (ys.map (Atom.ev ρ))) a w:=λt h3 h=>by simp only [It.holds,SV.ev,C.ev] at h ⊢;rw [h3];exact h
   cases v.1 with
   | slot t=>
    intro hz h3 h;obtain rfl:=List.mem_singleton.1 hz;exact hsl t h3 (h _ (List.mem_singleton.2 rfl))
   | cell b o=>
    intro hz h3 h;obtain rfl:=List.mem_singleton.1 hz;obtain ⟨g,h4,h5,h6⟩:=h _ (List.mem_singleton.2 rfl);exact ⟨g,h4,by rw [h3];exact h5,h6⟩
   | two t u=>
    intro hz h3 h;simp only [lh,List.mem_cons,List.not_mem_nil,or_false] at hz h;rcases hz with rfl | rfl
    ·exact hsl t h3 (h _ (.inl rfl))
    ·exact hsl u h3 (h _ (.inr rfl))
  ·obtain ⟨f,hf,rfl⟩:=List.mem_map.1 hx';have hcl:∀x:C,x.sts = []->x.ev da=x.ev ρ:=λx hst=>by
    have hal:∀y,y ∈ x.cells->y.st=none:=λy hy=>by
     cases hy':y.st with
     | none=>rfl
     | some j=>
      have:j ∈ x.sts:=List.mem_filterMap.2 ⟨y,hy,hy'⟩;rw [hst] at this;cases this
    cases x with
    | one y=>exact rJ (hal y (by simp [C.cells])) _ _
    | agg l=>
     simp only [C.ev];congr 2;exact List.map_congr_left λy hy=>rJ (hal y hy) _ _
   have key:∀(fs:List (LC×LF)) (ss:List Src),lj st ys fs ss=true->lk Φ Ψ fs ss->f ∈ fs->(∀J p,f.2 = .cM J p->∀w1,Off (co J X ρ) w w1->Ψ p w1 ((f.1.sel ys).ev ρ))∧∀j y,f.2 = .lo j->f.1.sel ys = .one y->∀g,blk (y.ev ρ)=some g->ρ.o j g:=by
    intro fs
    induction fs with
    | nil=>intro ss _ _ h;cases h
    | cons g gs ih=>
     intro ss h1 h2 hm';cases ss with
     | nil=>simp [lj] at h1
     | cons s ss=>
      cases s with
      | frm p=>
       simp only [lj,Bool.and_eq_true] at h1;rcases List.mem_cons.1 hm' with rfl | hm'
       ·obtain ⟨h3,_⟩:=h1;have h4:=h2.1;refine ⟨λJ q e w1 hw=>?_,λj y e ey g hg=>?_⟩
        ·rw [e] at h3 h4;exact h4 _ _ (vk h3 hx w1 hw)
        ·rw [e,ey] at h3;simp only [LF.LI,Bool.or_eq_true] at h3;rcases h3 with h3 | h3
         ·rw [Atom.dK h3] at hg;cases hg
         ·exact hx _ (rT h3) g hg
       ·exact ih ss h1.2 h2.2 hm'
      | closed x=>
       simp only [lj,Bool.and_eq_true] at h1;rcases List.mem_cons.1 hm' with rfl | hm'
       ·obtain ⟨⟨⟨h3,h4⟩,h5⟩,_⟩:=h1;have h6:=h2.1;refine ⟨λJ q e w1 hw=>?_,λj y e ey g hg=>?_⟩
        ·rw [e] at h6;have ex:x=f.1.sel ys:=C.dK h3;rw [<- ex,<- hcl x (by simpa using h4)];exact h6 w1
        ·rw [e] at h5;cases h5
       ·exact ih ss h1.2 h2.2 hm'
      | own p j=>
       simp only [lj,Bool.and_eq_true] at h1;rcases List.mem_cons.1 hm' with rfl | hm'
       ·obtain ⟨h3,_⟩:=h1;have h4:=h2.1;refine ⟨λJ q e w1 hw=>?_,λj y e ey g hg=>?_⟩
        ·rw [e] at h3 h4;simp only [LF.LJ,Bool.and_eq_true] at h3;obtain ⟨hJ,h5,h6⟩:=h3;have hj:j ∈ J:=by simpa using hJ
         refine h4 w w1 _ (Ak h5 hx w (Off.refl _ _)) hw.1 λb hb=>?_;have ho:ρ.o j b:=by
          revert h6 hb
          cases f.1.sel ys with
          | one z=>exact λh6 hb=>hx _ (rT h6) b hb
          | agg l=>exact λh6=>by cases h6
         refine hw.2 b (hG.loose j b ho).2 λhX=>?_;rcases hX with hX | ⟨i,hX⟩ | ⟨i,hi,hX⟩
         ·have h7:=hG.old b hX;have h8:=(hG.loose j b ho).1;omega
         ·exact hG.apart j i b hX ho
         ·exact hi (hG.one j i b ho hX▸hj)
        ·rw [e] at h3;cases h3
       ·exact ih ss h1.2 h2.2 hm'
   obtain ⟨k1,k2⟩:=key _ _ h hs hf;cases e:f.2 with
   | cM J p=>
    refine uT λw1 hw=>?_;rw [hsel];exact k1 J p e w1 hw
   | lo j=>
    have hc:∀x:C,x=f.1.sel (li k 0 d.vars)->(LF.item x (.lo j)).holds Ψ X (ρ.put k (ys.map (Atom.ev ρ))) a w:=λx ex=>by
     cases x with
     | agg l=>intro g hg;cases hg
     | one y=>
      intro g hg;have h1:y.ev (ρ.put k (ys.map (Atom.ev ρ)))=(f.1.sel ys).ev ρ:=by have:=hsel f.1;rw [<- ex] at this;exact this
      cases h2:f.1.sel ys with
      | one z=>rw [h1,h2] at hg;exact k2 j z e h2 g hg
      | agg l=>rw [h1,h2] at hg;cases hg
    exact hc _ rfl
 ·have hk':=List.all_eq_true.1 hk x hx';simp only [Bool.and_eq_true,Bool.not_eq_true'] at hk';have hin:=hx x (rT hk'.1);have hst:k ∉ x.sts:=λh=>by have:=hk'.2;rw [List.contains_iff_mem.2 h] at this;cases this
  have hold:=frame hstep (a':=a) (λ_ _=>rfl) x hin (λy hy=>by cases hy) hst;cases x with
  | slot t v=>exact hold
  | cell b o y=>exact hold
  | fact y p=>
   have hp:p<d.m:=by simpa [kept,Aq] using (List.mem_filter.1 hx').2
   intro w1 hw;rw [<- hm p hp];exact hold w1 hw
  | held J y p=>
   have hp:p<d.m:=by have:=(List.mem_filter.1 hx').2;simp only [Aq,Bool.and_eq_true,decide_eq_true_eq] at this;exact this.1
   intro w1 hw;rw [<- hm p hp];exact hold w1 hw
  | lo j y=>exact hold
  | eo J y=>exact hold
theorem aij {d:bp}{st:List It} (hm:∀p,p<d.m->Ψ p=Φ p) (hp:∀q,q ∈ d.post->∀w v,Ψ q.1 w v->Φ q.2 w v) (hK:dr Ψ X W n st a w):dr Φ X W n (vj d st) a w:=by
 obtain ⟨ρ,hG,hx⟩:=hK;refine ⟨ρ,hG,λx hx'=>?_⟩;obtain ⟨y,hy,he⟩:=List.mem_filterMap.1 hx';have h:=hx y hy;cases y with
 | slot t v=>simp only [Option.some.injEq] at he;subst he;exact h
 | cell b o v=>simp only [Option.some.injEq] at he;subst he;exact h
 | fact c p=>
  simp only at he;split at he
  ·rename_i hlt;simp only [Option.some.injEq] at he;subst he;intro w1 hw;rw [<- hm p hlt];exact h w1 hw
  ·cases hf:d.post.find? (λq=>q.1 == p) with
   | none=>simp [hf] at he
   | some q=>
    simp only [hf,Option.map_some,Option.some.injEq] at he;subst he;have h1:q.1=p:=by simpa using List.find?_some hf
    intro w1 hw;exact hp q (List.mem_of_find?_eq_some hf) w1 _ (h1▸h w1 hw)
 | held J c p=>
  simp only at he;split at he
  ·rename_i hlt;simp only [Option.some.injEq] at he;subst he;intro w1 hw;rw [<- hm p hlt];exact h w1 hw
  ·cases hf:d.post.find? (λq=>q.1 == p) with
   | none=>simp [hf] at he
   | some q=>
    simp only [hf,Option.map_some,Option.some.injEq] at he;subst he;have h1:q.1=p:=by simpa using List.find?_some hf
    intro w1 hw;exact hp q (List.mem_of_find?_eq_some hf) w1 _ (h1▸h w1 hw)
 | lo j v=>simp only [Option.some.injEq] at he;subst he;exact h
 | eo J v=>simp only [Option.some.injEq] at he;subst he;exact h
theorem aik {p:Nat->Prop} (h:∃m,p m):∃m,p m∧∀k,p k->m<=k:=by
 obtain ⟨m,hm⟩:=h
 induction m using Nat.strongRecOn with
 | _ m ih=>
  by_cases hk:∃k,k<m∧p k
  ·obtain ⟨k,h1,h2⟩:=hk;exact ih k h1 h2
  ·exact ⟨m,hm,λk hp=>Nat.le_of_not_lt λhlt=>hk ⟨k,hlt,hp⟩⟩
theorem ail {c:Code}{J:Type}{Ψ:J->Nat->World->Value->Prop}{hd:List It} (μ:J->Nat){Q:Exit->Act->World->Prop}
  (round:∀j a w,dr (Ψ j) X W n hd a w->c.wp P (Exit.then (λa' w'=>∃j',dr (Ψ j') X W n hd a' w'∧μ j'<μ j) Q) a w){j0:J} (h0:dr (Ψ j0) X W n hd a w):(Code.loop c).wp P Q a w:=by
 have hex:∀a w,(∃j,dr (Ψ j) X W n hd a w)->∃m,(∃j,dr (Ψ j) X W n hd a w∧μ j=m)∧∀k,(∃j,dr (Ψ j) X W n hd a w∧μ j=k)->m<=k:=λa w ⟨j,h⟩=>aik ⟨_,j,h,rfl⟩;refine wp_loop (λa w=>∃j,dr (Ψ j) X W n hd a w) (λa w=>open Classical in if h:∃j,dr (Ψ j) X W n hd a w then Classical.choose (hex a w h) else 0) ⟨j0,h0⟩ λa w hI=>?_;obtain ⟨⟨j,hj,hμ⟩,_⟩:=Classical.choose_spec (hex a w hI);refine wp_mono (round j a w hj) λe a' w' hq=>?_;cases e with
 | normal=>
  obtain ⟨j',h2,h3⟩:=hq;refine ⟨⟨j',h2⟩,?_⟩;rw [dif_pos hI,dif_pos (⟨j',h2⟩:∃j,dr (Ψ j) X W n hd a' w')];have h4:=(Classical.choose_spec (hex a' w' ⟨j',h2⟩)).2 _ ⟨j',h2,rfl⟩;omega
 | exit id=>exact hq
 | goto l=>exact hq
 | ret=>exact hq
 | panic c=>exact hq
 | outgrown=>exact hq
theorem oe {Φ:Nat->World->Value->Prop}:∀{ss:List Step}{st st':List It}{ss':List Step},fY st ss=some (st',ss')->(∀s,s ∈ ss->cH P Φ s)->(∀s,s ∈ ss'->cH P Φ s)∧∀a w,dr Φ X W n st a w->dr Φ X W n st' a w
 | .derive y sh fs p :: l,st,st',ss',h,hs=>by
  simp only [fY] at h;split at h
  case isFalse=>cases h
  rename_i hc;simp only [Bool.and_eq_true] at hc;obtain ⟨h1,h2⟩:=oe (ss:=l) h (λs hs'=>hs s (List.mem_cons_of_mem _ hs'));refine ⟨h1,λa w hK=>h2 a w ?_⟩;obtain ⟨ρ,hG,hx⟩:=hK;refine ⟨ρ,hG,λx hx'=>?_⟩;rcases List.mem_cons.1 hx' with rfl | hx'
  ·cases hs _ (List.mem_cons_self ..) with
   | derive h=>
    refine uT (h (co _ X ρ) w (y.ev ρ) ⟨uR hc.1 ρ,λq hq w1 hw=>?_⟩);rw [<- nT];exact vk (List.all_eq_true.1 hc.2 q hq) hx w1 hw
  ·exact hx x hx'
 | .freed y p q :: l,st,st',ss',h,hs=>by
  simp only [fY] at h;split at h
  case isFalse=>cases h
  rename_i hc;obtain ⟨h1,h2⟩:=oe (ss:=l) h (λs hs'=>hs s (List.mem_cons_of_mem _ hs'));refine ⟨h1,λa w hK=>h2 a w ?_⟩;obtain ⟨ρ,hG,hx⟩:=hK;refine ⟨ρ,hG,λx hx'=>?_⟩;rcases List.mem_cons.1 hx' with rfl | hx'
  ·cases hs _ (List.mem_cons_self ..) with
   | freed h=>exact λw1 _=>h w w1 _ (Ak hc hx w (Off.refl _ _))
  ·exact hx x hx'
 | .swap i j :: l,st,st',ss',h,hs=>by
  simp only [fY] at h;split at h
  case isFalse=>cases h
  rename_i hc;obtain ⟨h1,h2⟩:=oe (ss:=l) h (λs hs'=>hs s (List.mem_cons_of_mem _ hs'));refine ⟨h1,λa w hK=>h2 a w ?_⟩;obtain ⟨ρ,hG,hx⟩:=hK;have far:∀k,2<=k->2<=fX i j k:=λk hk=>by
   unfold fX;split
   ·omega
   ·split <;> omega
  have own:∀(J:List Nat) m,co (J.map (fX i j)) X { ρ with o:=λk m=>ρ.o (fX i j k) m } m->co J X ρ m:=λJ m h=>by
   rcases h with h | h | ⟨k,h1,h2⟩
   ·exact .inl h
   ·exact .inr (.inl h)
   ·exact .inr (.inr ⟨fX i j k,λhk=>h1 (List.mem_map.2 ⟨fX i j k,hk,rV i j k⟩),h2⟩)
  refine ⟨{ ρ with o:=λk m=>ρ.o (fX i j k) m },⟨hG.defers,hG.size,hG.grown,hG.inj,hG.lo,hG.old,λk m h=>hG.loose _ m h,λq k m h1 h2=>hG.apart _ k m h1 h2,λp q m h1 h2=>?_,⟨hG.far.1,λk m hk h=>hG.far.2 _ m (far k hk) h⟩⟩,λx hx'=>?_⟩
  ·have:=hG.one _ _ m h1 h2;rw [<- rV i j p,this,rV]
  ·obtain ⟨y,hy,rfl⟩:=List.mem_map.1 hx';have h:=hx y hy;cases y with
   | slot t v=>simp only [It.sw,It.holds] at h ⊢;rw [SV.cT];exact h
   | cell k o y=>
    obtain ⟨g,h1,h2,h3⟩:=h;exact ⟨g,h1,by rw [cT];exact h2,h3⟩
   | fact y p=>
    intro w1 hw;rw [C.cT];exact h w1 (hw.wide (own []))
   | held J y p=>
    intro w1 hw;rw [C.cT];exact h w1 (hw.wide (own J))
   | lo k y=>
    intro g hg;rw [cT] at hg;show ρ.o (fX i j (fX i j k)) g;rw [rV];exact h g hg
   | eo J y=>
    intro g hg;rw [cT] at hg;obtain ⟨k,hk,h2⟩:=h g hg;exact ⟨fX i j k,List.mem_map.2 ⟨k,hk,rfl⟩,by show ρ.o (fX i j (fX i j k)) g;rw [rV];exact h2⟩
 | .shut j :: l,st,st',ss',h,hs=>by
  simp only [fY] at h;obtain ⟨h1,h2⟩:=oe (ss:=l) h (λs hs'=>hs s (List.mem_cons_of_mem _ hs'));refine ⟨h1,λa w hK=>h2 a w ?_⟩;obtain ⟨ρ,hG,hx⟩:=hK;have own:∀(J:List Nat) m,co (J.filter λk=>k != j) X { ρ with o:=λk m=>k≠j∧ρ.o k m } m->co J X ρ m:=λJ m h=>by
   rcases h with h | h | ⟨k,h1,hk,h2⟩
   ·exact .inl h
   ·exact .inr (.inl h)
   ·exact .inr (.inr ⟨k,λhm=>h1 (List.mem_filter.2 ⟨hm,by simpa using hk⟩),h2⟩)
  refine ⟨{ ρ with o:=λk m=>k≠j∧ρ.o k m },⟨hG.defers,hG.size,hG.grown,hG.inj,hG.lo,hG.old,λk m h=>hG.loose _ m h.2,λq k m h1 h2=>hG.apart _ k m h1 h2.2,λp q m h1 h2=>hG.one _ _ m h1.2 h2.2,⟨hG.far.1,λk m hk h=>hG.far.2 _ m hk h.2⟩⟩,λx hx'=>?_⟩;obtain ⟨y,hy,hyx⟩:=List.mem_filterMap.1 hx';have h:=hx y hy;cases y with
  | slot t v=>
   obtain rfl:=Option.some.inj hyx;simp only [It.holds] at h ⊢;rw [SV.cT];exact h
  | cell k o y=>
   obtain rfl:=Option.some.inj hyx;obtain ⟨g,h1,h2,h3⟩:=h;exact ⟨g,h1,by rw [cT];exact h2,h3⟩
  | fact y p=>
   obtain rfl:=Option.some.inj hyx;intro w1 hw;rw [C.cT];exact h w1 (hw.wide λm hm=>own [] m hm)
  | held J y p=>
   obtain rfl:=Option.some.inj hyx;intro w1 hw;rw [C.cT];exact h w1 (hw.wide (own J))
  | lo k y=>
   simp only [It.cl] at hyx;split at hyx
   ·cases hyx
   ·obtain rfl:=Option.some.inj hyx;intro g hg;rw [cT] at hg;exact ⟨‹_›,h g hg⟩
  | eo J y=>
   simp only [It.cl] at hyx;split at hyx
   ·cases hyx
   ·rename_i hj;obtain rfl:=Option.some.inj hyx;intro g hg;rw [cT] at hg;obtain ⟨k,hk,h2⟩:=h g hg;exact ⟨k,hk,λe=>hj (by rw [<- e];simpa using hk),h2⟩
 | .release b sz fs q :: l,st,st',ss',h,hs=>by
  simp only [fY] at h;split at h
  case h_2=>cases h
  rename_i c hc;split at h
  case isFalse=>cases h
  rename_i hcd;obtain ⟨h1,h2⟩:=oe (ss:=l) h (λs hs'=>hs s (List.mem_cons_of_mem _ hs'));refine ⟨h1,λa w hK=>h2 a w ?_⟩;obtain ⟨ρ,hG,hx⟩:=hK;have hlen:=nS hc;have hcell:∀(i:Nat) (y:Atom),c[i]?=some y->∃g,ρ.g b=some g∧w.cell? ⟨g,i,none⟩=some (y.ev ρ)∧w.frozen? ⟨g,i,none⟩=false:=λi y hy=>by have:=hx _ (An hc _ (kU (k:=b) (o:=0) hy));rw [Nat.zero_add] at this;exact this
  obtain ⟨B,hB⟩:∃B,ρ.g b=some B:=by obtain ⟨g,hg,_⟩:=hcell 0 c[0] (List.getElem?_eq_getElem (by omega));exact ⟨g,hg⟩
  obtain ⟨ρ',hρ⟩:∃ρ':Env,ρ' = { ρ with g:=λj=>if j=b then none else ρ.g j,p:=λk o=>if k=b∧o=0 then some ⟨B,0,none⟩ else ρ.p k o }:=⟨_,rfl⟩;have hg:∀j m,ρ'.g j=some m->j≠b∧ρ.g j=some m:=λj m h=>by
   rw [hρ] at h;simp only at h;split at h
   ·cases h
   ·exact ⟨‹_›,h⟩
  have hgn:∀j,j≠b->ρ'.g j=ρ.g j:=λj h=>by rw [hρ];simp only [if_neg h]
  have ho:ρ'.o=ρ.o:=by rw [hρ]
  have same:∀x:Atom,x.st≠some b->x.ev ρ'=x.ev ρ:=λx hx=>by
   cases x with
   | ptr k o=>simp only [Atom.ev];rw [hgn k λe=>hx (by rw [e];rfl)]
   | row k o=>simp only [Atom.ev];rw [hgn k λe=>hx (by rw [e];rfl)]
   | mu f k=>simp only [Atom.ev];rw [hgn k λe=>hx (by rw [e];rfl)]
   | p k o=>rw [hρ];simp only [Atom.ev];rw [if_neg λe=>hx (by rw [e.1];rfl)]
   | _=>rw [hρ];rfl
  have own:∀(J:List Nat) m,co J X ρ' m->co J X ρ m:=λJ m h=>by
   rcases h with h | ⟨j,h⟩ | ⟨j,h1,h2⟩
   ·exact .inl h
   ·exact .inr (.inl ⟨j,(hg j m h).2⟩)
   ·exact .inr (.inr ⟨j,h1,by rw [<- ho];exact h2⟩)
  have hBX:¬Own X ρ' B:=λh=>by
   rcases h with h | ⟨j,h⟩ | ⟨j,_,h⟩
   ·have:=hG.old B h;have:=(hG.lo b B hB).1;omega
   ·exact (hg j B h).1 (hG.inj _ _ _ (hg j B h).2 hB)
   ·exact hG.apart j b B hB (by rw [<- ho];exact h)
  refine ⟨ρ',⟨hG.defers,hG.size,hG.grown,λj k m h1 h2=>hG.inj j k m (hg j m h1).2 (hg k m h2).2,λk m h=>hG.lo k m (hg k m h).2,hG.old,λj k h=>hG.loose j k (by rw [<- ho];exact h),λi j k h1 h2=>hG.apart i j k (hg j k h1).2 (by rw [<- ho];exact h2),λi j k h1 h2=>hG.one i j k (by rw [<- ho];exact h1) (by rw [<- ho];exact h2),⟨hG.far.1,λj k h1 h2=>hG.far.2 j k h1 (by rw [<- ho];exact h2)⟩⟩,λx hx'=>?_⟩;rcases List.mem_cons.1 hx' with rfl | hx'
  ·intro w1 hw;have e0:(C.one (Atom.p b 0)).ev ρ' = .pointer (some ⟨B,0,none⟩):=by rw [hρ];simp [C.ev,Atom.ev]
   rw [e0];have hblk:=hw.2 B (hG.lo b B hB).2 hBX;cases hs _ (List.mem_cons_self ..) with
   | release h=>
    refine h w1 B (c.map (Atom.ev ρ)) (by simp [hlen]) (λi u hu=>?_) (λf hf=>?_)
    ·rw [List.getElem?_map,Option.map_eq_some_iff] at hu;obtain ⟨y,hy,rfl⟩:=hu;obtain ⟨g,h3,h4,-⟩:=hcell i y hy;obtain rfl:B=g:=Option.some.inj (hB.symm.trans h3);rw [<- h4];simp only [World.cell?,hblk]
    ·have:=vk (List.all_eq_true.1 hcd.2 f hf) hx w1 (hw.wide (own []));rw [nT] at this;exact this
  ·obtain ⟨y,hy,hyx⟩:=List.mem_filterMap.1 hx';have h:=hx y hy;have keep:∀z:It,(if z.sts.contains b then none else some z)=some x->z=x∧b ∉ z.sts:=λz hz=>by
    split at hz
    ·cases hz
    ·rename_i hn;exact ⟨Option.some.inj hz,by simpa using hn⟩
   cases y with
   | slot t v=>
    simp only [It.rel] at hyx;split at hyx
    ·rename_i hv;obtain rfl:=Option.some.inj hyx;simp only [It.holds] at h ⊢;rw [h,SV.dK hv,hρ];simp [SV.ev,C.ev,Atom.ev,hB]
    ·split at hyx
     ·cases hyx
     ·rename_i hn;obtain rfl:=Option.some.inj hyx;simp only [It.holds] at h ⊢;rw [SV.same same v (by simpa using hn)];exact h
   | cell k o y=>
    obtain ⟨rfl,hn⟩:=keep _ hyx;obtain ⟨g,h3,h4,h5⟩:=h;refine ⟨g,by rw [hgn k λe=>hn (by simp [It.sts,e])];exact h3,?_,h5⟩;rw [same y λe=>hn (by simp [It.sts,e])];exact h4
   | fact y p=>
    obtain ⟨rfl,hn⟩:=keep _ hyx;intro w1 hw;rw [C.same same y hn];exact h w1 (hw.wide (own []))
   | held J y p=>
    obtain ⟨rfl,hn⟩:=keep _ hyx;intro w1 hw;rw [C.same same y hn];exact h w1 (hw.wide (own J))
   | lo k y=>
    obtain ⟨rfl,hn⟩:=keep _ hyx;intro g hg';rw [same y λe=>hn (by simp [It.sts,e])] at hg';rw [ho];exact h g hg'
   | eo J y=>
    obtain ⟨rfl,hn⟩:=keep _ hyx;intro g hg';rw [same y λe=>hn (by simp [It.sts,e])] at hg';obtain ⟨k,hk,h3⟩:=h g hg';exact ⟨k,hk,by rw [ho];exact h3⟩
 | .narrow j v i p s q q' :: l,st,st',ss',h,hs=>by
  simp only [fY] at h;split at h
  case isFalse=>cases h
  rename_i hc;obtain ⟨h1,h2⟩:=oe (ss:=l) h (λs hs'=>hs s (List.mem_cons_of_mem _ hs'));refine ⟨h1,λa w hK=>h2 a w ?_⟩;obtain ⟨ρ,hG,hx⟩:=hK;have own:∀(J:List Nat) m,co J X { ρ with o:=λk m=>(k=j->blk (v.ev ρ)=some m)∧ρ.o k m } m->co J X ρ m:=λJ m h=>by
   rcases h with h | h | ⟨k,h1,hk,h2⟩
   ·exact .inl h
   ·exact .inr (.inl h)
   ·exact .inr (.inr ⟨k,h1,h2⟩)
  refine ⟨{ ρ with o:=λk m=>(k=j->blk (v.ev ρ)=some m)∧ρ.o k m },⟨hG.defers,hG.size,hG.grown,hG.inj,hG.lo,hG.old,λk m h=>hG.loose _ m h.2,λq k m h1 h2=>hG.apart _ k m h1 h2.2,λp q m h1 h2=>hG.one _ _ m h1.2 h2.2,⟨hG.far.1,λk m hk h=>hG.far.2 _ m hk h.2⟩⟩,λx hx'=>?_⟩;rcases List.mem_cons.1 hx' with rfl | hx'
  ·cases hs _ (List.mem_cons_self ..) with
   | narrow h=>
    intro w1 hw;rw [C.cT];refine h (co [j] X ρ) w (v.ev ρ) (i.ev ρ) (p.ev ρ) (s.ev ρ) (vk hc hx) w1 (hw.wide λm hm=>?_);rcases hm with h | h | ⟨k,-,h2,h3⟩
    ·exact .inl (.inl h)
    ·exact .inl (.inr (.inl h))
    ·by_cases hk:k=j
     ·exact .inr (h2 hk)
     ·exact .inl (.inr (.inr ⟨k,by simpa using hk,h3⟩))
  obtain ⟨y,hy,hyx⟩:=List.mem_filterMap.1 hx';have h:=hx y hy;cases y with
  | slot t v=>
   obtain rfl:=Option.some.inj hyx;simp only [It.holds] at h ⊢;rw [SV.cT];exact h
  | cell k o y=>
   obtain rfl:=Option.some.inj hyx;obtain ⟨g,h1,h2,h3⟩:=h;exact ⟨g,h1,by rw [cT];exact h2,h3⟩
  | fact y p=>
   obtain rfl:=Option.some.inj hyx;intro w1 hw;rw [C.cT];exact h w1 (hw.wide λm hm=>own [] m hm)
  | held J y p=>
   obtain rfl:=Option.some.inj hyx;intro w1 hw;rw [C.cT];exact h w1 (hw.wide (own J))
  | lo k y=>
   simp only [It.nr] at hyx;split at hyx
   ·cases hyx
   ·rename_i hne;obtain rfl:=Option.some.inj hyx;intro g hg;rw [cT] at hg;refine ⟨λhk=>?_,h g hg⟩;simp only [hk,decide_true,Bool.true_and,Bool.not_eq_true',Bool.not_eq_false] at hne;rw [<- Atom.dK hne];exact hg
  | eo J y=>
   simp only [It.nr] at hyx;split at hyx
   ·cases hyx
   ·rename_i hj;obtain rfl:=Option.some.inj hyx;intro g hg;rw [cT] at hg;obtain ⟨k,hk,h2⟩:=h g hg;exact ⟨k,hk,λe=>absurd hk (by rw [e];simpa using hj),h2⟩
 | [],st,st',ss',h,hs=>by simp only [fY,Option.some.injEq,Prod.mk.injEq] at h;obtain ⟨rfl,rfl⟩:=h;exact ⟨hs,λ_ _ h=>h⟩
 | .base s :: l,st,st',ss',h,hs=>by simp only [fY,Option.some.injEq,Prod.mk.injEq] at h;obtain ⟨rfl,rfl⟩:=h;exact ⟨hs,λ_ _ h=>h⟩
 | .loop d r o :: l,st,st',ss',h,hs=>by simp only [fY,Option.some.injEq,Prod.mk.injEq] at h;obtain ⟨rfl,rfl⟩:=h;exact ⟨hs,λ_ _ h=>h⟩
 | .rounds m :: l,st,st',ss',h,hs=>by simp only [fY,Option.some.injEq,Prod.mk.injEq] at h;obtain ⟨rfl,rfl⟩:=h;exact ⟨hs,λ_ _ h=>h⟩
theorem aim {c:Code} (ih:∀(st:List It) (k:Nat) (ss:List Step) (x:Ex) (st':List It) (k':Nat) (r:List Step),ek P n c st k ss=some (x,st',k',r)->(∀s,s ∈ ss->cH P Φ s)->
  (∀s,s ∈ r->cH P Φ s)∧∀Q:Exit->Act->World->Prop,(∀a w,dr Φ X W n st' a w->Q x.to a w)->∀a w,dr Φ X W n st a w->c.wp P Q a w) :
  ∀(m:Nat) (st:List It) (k:Nat) (ss:List Step) (x:Ex) (st':List It) (k':Nat) (r:List Step),vm (λst k ss=>ek P n c st k ss) m st k ss=some (x,st',k',r)->(∀s,s ∈ ss->cH P Φ s)->
  (∀s,s ∈ r->cH P Φ s)∧∀Q:Exit->Act->World->Prop,(∀a w,dr Φ X W n st' a w->Q x.to a w)->∀a w,dr Φ X W n st a w->Code.rounds P c Q m a w:=by
 intro m
 induction m with
 | zero=>intro st k ss x st' k' r h;cases h
 | succ m im=>
  intro st k ss x st' k' r h hs;simp only [vm] at h;split at h
  ·rename_i st1 k1 ss1 h1;obtain ⟨hs1,hw1⟩:=ih _ _ _ _ _ _ _ h1 hs;obtain ⟨hs2,hw2⟩:=im _ _ _ _ _ _ _ h hs1;exact ⟨hs2,λQ hQ a w hK=>hw1 _ (λa' w' hK'=>hw2 Q hQ a' w' hK') a w hK⟩
  ·rename_i hne;obtain ⟨hs1,hw1⟩:=ih _ _ _ _ _ _ _ h hs;refine ⟨hs1,λQ hQ a w hK=>hw1 _ (λa' w' hK'=>?_) a w hK⟩;have:=hQ a' w' hK';cases x with
   | normal=>exact absurd h (hne st' k' r)
   | exit id=>exact this
   | ret=>exact this
theorem GB:∀(c:Code) (st:List It) (k:Nat) (ss:List Step) (x:Ex) (st':List It) (k':Nat) (r:List Step),ek P n c st k ss=some (x,st',k',r)->∀Φ:Nat->World->Value->Prop,(∀s,s ∈ ss->cH P Φ s)->
  (∀s,s ∈ r->cH P Φ s)∧∀Q:Exit->Act->World->Prop,(∀a w,dr Φ X W n st' a w->Q x.to a w)->∀a w,dr Φ X W n st a w->c.wp P Q a w:=by
 intro c
 induction c with
 | skip=>
  intro st k ss x st' k' r h Φ hs;simp only [ek,Option.some.injEq,Prod.mk.injEq] at h;obtain ⟨rfl,rfl,rfl,rfl⟩:=h;exact ⟨hs,λQ hQ a w hK=>wp_skip (hQ a w hK)⟩
 | label l=>
  intro st k ss x st' k' r h Φ hs;simp only [ek,Option.some.injEq,Prod.mk.injEq] at h;obtain ⟨rfl,rfl,rfl,rfl⟩:=h;exact ⟨hs,λQ hQ a w hK=>wp_label (hQ a w hK)⟩
 | region id ops draw=>
  intro st k ss x st' k' r h Φ hs;simp only [ek] at h;split at h
  case isFalse=>cases h
  rename_i hm;split at h
  case h_2=>cases h
  rename_i stD ssD hD;obtain ⟨hs,hKD⟩:=oe (X:=X) (W:=W) (n:=n) hD hs;split at h
  case h_2=>cases h
  rename_i st1 r1 hr;simp only [Option.some.injEq,Prod.mk.injEq] at h;obtain ⟨rfl,rfl,rfl,rfl⟩:=h;have hm':draw=true->P.follows .mixedOrders=true:=λhd=>by rw [hd] at hm;simpa using hm
  obtain ⟨hb1,hb2⟩:=LK hs;obtain ⟨hr1,hr2⟩:=aid (X:=X) (W:=W) hr hm' hb1;refine ⟨λs hs'=>?_,λQ hQ a w hK=>hr2 Q hQ a w (hKD a w hK)⟩;rcases List.mem_append.1 hs' with hs' | hs'
  ·obtain ⟨t,ht,rfl⟩:=List.mem_map.1 hs';exact .base (hr1 t ht)
  ·exact hb2 s hs'
 | seq a b iha ihb=>
  intro st k ss x st' k' r h Φ hs;simp only [ek] at h;split at h
  ·rename_i st1 k1 ss1 h1;obtain ⟨hs1,hw1⟩:=iha _ _ _ _ _ _ _ h1 Φ hs;obtain ⟨hs2,hw2⟩:=ihb _ _ _ _ _ _ _ h Φ hs1;exact ⟨hs2,λQ hQ a' w hK=>wp_seq (hw1 _ (λa'' w'' hK'=>hw2 Q hQ a'' w'' hK') a' w hK)⟩
  ·rename_i hne;obtain ⟨hs1,hw1⟩:=iha _ _ _ _ _ _ _ h Φ hs;refine ⟨hs1,λQ hQ a' w hK=>wp_seq (hw1 _ (λa'' w'' hK'=>?_) a' w hK)⟩;have:=hQ a'' w'' hK';cases x with
   | normal=>exact absurd h (hne st' k' r)
   | exit id=>exact this
   | ret=>exact this
 | cond c t e iht zR=>
  intro st k ss x st' k' r h Φ hs;simp only [ek] at h;split at h
  case h_2=>cases h
  rename_i b l hv;have hev:∀a w,dr Φ X W n st a w->a.eval c = .bool b:=λa w ⟨ρ,_,hx⟩=>val_ok hv (λy hy=>hx y (aie hv y hy));cases b with
  | true=>
   obtain ⟨hs1,hw1⟩:=iht _ _ _ _ _ _ _ (by simpa using h) Φ hs;exact ⟨hs1,λQ hQ a w hK=>wp_cond_true (hev a w hK) (hw1 Q hQ a w hK)⟩
  | false=>
   obtain ⟨hs1,hw1⟩:=zR _ _ _ _ _ _ _ (by simpa using h) Φ hs;exact ⟨hs1,λQ hQ a w hK=>wp_cond_false (hev a w hK) (hw1 Q hQ a w hK)⟩
 | block id c ih=>
  intro st k ss x st' k' r h Φ hs;simp only [ek] at h;split at h
  ·rename_i j st1 k1 ss1 h1;simp only [Option.some.injEq,Prod.mk.injEq] at h;obtain ⟨rfl,rfl,rfl,rfl⟩:=h;obtain ⟨hs1,hw1⟩:=ih _ _ _ _ _ _ _ h1 Φ hs;refine ⟨hs1,λQ hQ a w hK=>wp_block (hw1 _ (λa' w' hK'=>?_) a w hK)⟩;have:=hQ a' w' hK';simp only [Ex.to,Exit.inBlock];split at this <;> rename_i hj
   ·rw [if_pos hj];exact this
   ·rw [if_neg hj];exact this
  ·rename_i hne;obtain ⟨hs1,hw1⟩:=ih _ _ _ _ _ _ _ h Φ hs;refine ⟨hs1,λQ hQ a w hK=>wp_block (hw1 _ (λa' w' hK'=>?_) a w hK)⟩;have:=hQ a' w' hK';cases x with
   | normal=>exact this
   | exit j=>exact absurd h (hne j st' k' r)
   | ret=>exact this
 | exit id=>
  intro st k ss x st' k' r h Φ hs;simp only [ek,Option.some.injEq,Prod.mk.injEq] at h;obtain ⟨rfl,rfl,rfl,rfl⟩:=h;exact ⟨hs,λQ hQ a w hK=>wp_exit (hQ a w hK)⟩
 | ret=>
  intro st k ss x st' k' r h Φ hs;simp only [ek,Option.some.injEq,Prod.mk.injEq] at h;obtain ⟨rfl,rfl,rfl,rfl⟩:=h;exact ⟨hs,λQ hQ a w hK=>wp_ret (hQ a w hK)⟩
 | loop c ih=>
  intro st k ss x st' k' r h Φ hs;simp only [ek] at h;split at h
  case h_3=>cases h
  case h_2=>
   rename_i m rest;obtain ⟨h1,h2⟩:=aim (X:=X) (W:=W) (Φ:=Φ) (λst k ss x st' k' r h hs=>ih st k ss x st' k' r h Φ hs) m _ _ _ _ _ _ _ h (λs hs'=>hs s (List.mem_cons_of_mem _ hs'));exact ⟨h1,λQ hQ a w hK=>wp_loop_rounds m (h2 Q hQ a w hK)⟩
  rename_i d rounds out rest;split at h
  case isFalse=>cases h
  rename_i hc;simp only [Bool.and_eq_true] at hc;obtain ⟨hc1,hc2⟩:=hc;have hrest:∀s,s ∈ rest->cH P Φ s:=λs hs'=>hs s (List.mem_cons_of_mem _ hs');cases hs _ (List.mem_cons_self ..) with
  | loop J Ψ μ go j0 pick nx hΨ h0 hp hμ hn hss ho hpost=>
   have key:∀(y:Ex) (ll:List It) (k3:Nat) (r3:List Step),y≠.normal->ek P n c (rW d st k) (k+1) out=some (y,ll,k3,r3)->∀Q:Exit->Act->World->Prop,(∀a w,dr Φ X W n (vj d ll) a w->Q y.to a w)->∀a w,dr Φ X W n st a w->(Code.loop c).wp P Q a w:=by
    intro y ll k3 r3 hy hrun Q hQ a w hK;refine ail (Ψ:=Ψ) (hd:=rW d st k) μ (λj a w hKj=>?_) (j0:=j0) (LP hc1 (λp hp'=>(hΨ j0 p hp').symm) h0 hK);by_cases hg:go j
    ·have hlt:=hp j hg;have hr':rounds[pick j]?=some rounds[pick j]:=List.getElem?_eq_getElem hlt;have hall:=List.all_eq_true.1 hc2 _ (List.getElem_mem hlt);split at hall
     case h_2=>cases hall
     rename_i st2 k2 r2 ain;refine (ih _ _ _ _ _ _ _ ain (Ψ j) (hss j hg _ hr')).2 _ (λa' w' hK2=>?_) a w hKj;exact ⟨nx j,LP hall (λp hp'=>by rw [hΨ j p hp',hΨ (nx j) p hp']) (hn j hg _ hr') hK2,hμ j hg⟩
    ·refine (ih _ _ _ _ _ _ _ hrun (Ψ j) (ho j hg)).2 _ (λa' w' hK3=>?_) a w hKj;have:=hQ a' w' (aij (λp hp'=>hΨ j p hp') (hpost j hg) hK3);cases y with
     | normal=>exact absurd rfl hy
     | exit id=>exact this
     | ret=>exact this
   split at h
   ·rename_i j ll k3 r3 hrun;simp only [Option.some.injEq,Prod.mk.injEq] at h;obtain ⟨rfl,rfl,rfl,rfl⟩:=h;exact ⟨hrest,key _ _ _ _ (by simp) hrun⟩
   ·rename_i ll k3 r3 hrun;simp only [Option.some.injEq,Prod.mk.injEq] at h;obtain ⟨rfl,rfl,rfl,rfl⟩:=h;exact ⟨hrest,key _ _ _ _ (by simp) hrun⟩
   ·cases h
 | rangeFunc f ps a b _ _=>intro st k ss x st' k' r h;simp [ek] at h
 | scope c _=>intro st k ss x st' k' r h;simp [ek] at h
 | goto l=>intro st k ss x st' k' r h;simp [ek] at h
 | refuse s=>intro st k ss x st' k' r h;simp [ek] at h
end
def LQ (P:Program) (fn:Func) (c:Code) (ins:List Out) (ss:List Step) (res:List Out) (bJ:Bool):Bool:=
 decide (ins.length<=fn.ntmps) && ins.all (λo=>o.sh.good) &&
 match ek P fn.ntmps c (start ins) 1 ss with
 | some (.exit _,_,_,_)=>false
 | some (_,st,_,_)=>(match fn.results.toList.mapM (nC P st) with
  | some cs=>nE st cs res && (bJ == !(cs.length == 1))
  | none=>false)
 | none=>false
def LR (P:Program) (fn:Func) (ins:List Out) (ss:List Step) (res:List Out) (bJ:Bool):Bool:=match fn.body with
 | some c=>LQ P fn c ins ss res bJ
 | none=>false
section
variable {P:Program}
theorem adL {fn:Func} (ins res:List Out) (ss:List Step) (hf:P.funcs[s.f]?=some fn) (hrun:LR P fn ins ss res s.bJ=true) (hs:∀t,t ∈ ss->cH P Φ t)
  (hin:∀(X:Nat->Prop) (w:World) (vs:List Value),(∀k,X k->k<w.heap.size)->cX Φ X w s.args vs->cG Φ X w ins vs)
  (hout:∀(X:Nat->Prop) (w:World) (us:List Value),cG Φ X w res us->cG Φ X w s.outs us):rI Φ P s:=by
 intro X W vs hX hargs;unfold LR at hrun;split at hrun
 case h_2=>cases hrun
 rename_i c hb;simp only [LQ,Bool.and_eq_true,decide_eq_true_eq] at hrun;obtain ⟨⟨hle,hgood⟩,hrun⟩:=hrun;have hins:=hin X W vs hX hargs;have hlen:=hins.length;obtain ⟨e1,e2⟩:=gP (ρ:=da) (k:=0) (l:=vs.flatMap cellsOf) (c:=0) hins hgood (λj u hj=>by rw [Nat.zero_add];exact hj);refine calls_of_wp hf hb ?_;have hstart:dr Φ X { W with drawn:=0 } fn.ntmps (start ins) { tmps:=vs.toArray ++ Array.replicate (fn.ntmps-vs.toArray.size) undef,defers:=[] } W:=by
  refine ⟨da.put 0 (vs.flatMap cellsOf),⟨rfl,by simp;omega,GA (bH _ _),λj k g h=>by simp [Env.put,da] at h,λk g h=>by simp [Env.put,da] at h,hX,λj k h=>h.elim,λi j k h=>by simp [Env.put,da] at h,λi j k h=>h.elim,⟨Nat.zero_le _,λj k _ h=>h.elim⟩⟩,λx hx=>?_⟩;rcases List.mem_append.1 hx with hx | hx
  ·obtain ⟨m,y,rfl,hm⟩:=yi 0 hx;simp only [Nat.zero_add,It.holds,SV.ev];have:vs[m]?=some (y.ev (da.put 0 (vs.flatMap cellsOf))):=by have h:=congrArg (λl:List Value=>l[m]?) e1;simp only [List.getElem?_map,hm,Option.map_some] at h;exact h.symm
   have hlt:=(List.getElem?_eq_some_iff.1 this).1;rw [Array.getElem?_append_left (by simpa using hlt)];simpa using this
  ·obtain ⟨y,p,rfl,hy⟩:=e2 x hx;exact λw1 hw=>hy w1 (hw.1 |> λh1=>⟨h1,λk hk hn=>hw.2 k hk (λho=>by
    rcases ho with ho | ⟨j,ho⟩ | ⟨j,-,ho⟩
    ·exact hn ho
    ·simp [Env.put,da] at ho
    ·exact ho.elim)⟩)
 split at hrun
 case h_1=>cases hrun
 case h_3=>cases hrun
 rename_i x st k' r hne hr;obtain ⟨_,hw⟩:=GB (X:=X) (W:={ W with drawn:=0 }) c _ _ _ _ _ _ _ hr Φ hs;refine hw _ (λa w hK=>?_) _ _ hstart;split at hrun
 case h_2=>cases hrun
 rename_i cs hcs;simp only [Bool.and_eq_true,beq_iff_eq] at hrun;obtain ⟨ρ,hG,hx⟩:=hK;have hres:=yj (P:=P) hx hcs;have hpost:a.defers = []∧∃v,(results fn a.tmps).run P w = .ok v w∧(W.grownBy w none∧∃us:List Value,Ending.returned v = .returned (if s.bJ then .tuple us.toArray else us.headD undef)∧cG Φ X w s.outs us):=by
  refine ⟨hG.defers,(if s.bJ then .tuple (cs.map (C.ev ρ)).toArray else (cs.map (C.ev ρ)).headD undef),?_,GC hG.grown,_,rfl,hout X w _ (yk hx hrun.1)⟩;have hv:(if h:(cs.map (C.ev ρ)).toArray.size=1 then (cs.map (C.ev ρ)).toArray[0] else Value.tuple (cs.map (C.ev ρ)).toArray)=(if s.bJ then .tuple (cs.map (C.ev ρ)).toArray else (cs.map (C.ev ρ)).headD undef):=by
   rw [hrun.2]
   match cs with
   | []=>rfl
   | [x]=>rfl
   | x :: y :: l=>simp
  rw [GD,<- hv];simp [Array.mapM_eq_mapM_toList,hres]
 cases x with
 | normal=>exact hpost
 | ret=>exact hpost
 | exit id=>exact absurd rfl (hne id)
theorem au:∀t,t ∈ ([]:List Step)->cH P Φ t:=λ_ h=>by cases h
theorem aio  (h:aj Φ P s) (hl:∀t,t ∈ l->cH P Φ t):∀t,t ∈ Step.base s :: l->cH P Φ t:=λt ht=>by
 rcases List.mem_cons.1 ht with rfl | ht
 ·exact .base h
 ·exact hl t ht
theorem bk {fs:List (Nat×Nat×Nat)} (h:∀(X:Nat->Prop) (w:World) (v:Value),(Arg.parts sh fs).ok Φ X w v->(Arg.fact p).ok Φ X w v) (hl:∀t,t ∈ l->cH P Φ t):∀t,t ∈ Step.derive y sh fs p :: l->cH P Φ t:=λt ht=>by
 rcases List.mem_cons.1 ht with rfl | ht
 ·exact .derive h
 ·exact hl t ht
theorem pd  (hl:∀t,t ∈ l->cH P Φ t):∀t,t ∈ Step.shut j :: l->cH P Φ t:=λt ht=>by
 rcases List.mem_cons.1 ht with rfl | ht
 ·exact .shut
 ·exact hl t ht
theorem SN {v i p s:Atom}{q q':Nat} (h:∀(X:Nat->Prop) (w:World) (v i p s:Value),(∀w1,Off X w w1->Φ q w1 (.agg #[v,i,p,s]))->∀w1,Off (λk=>X k∨blk v=some k) w w1->Φ q' w1 s) (hl:∀t,t ∈ l->cH P Φ t):∀t,t ∈ Step.narrow j v i p s q q' :: l->cH P Φ t:=λt ht=>by
 rcases List.mem_cons.1 ht with rfl | ht
 ·exact .narrow h
 ·exact hl t ht
theorem aeE  (hl:∀t,t ∈ l->cH P Φ t):∀t,t ∈ Step.swap i j :: l->cH P Φ t:=λt ht=>by
 rcases List.mem_cons.1 ht with rfl | ht
 ·exact .swap
 ·exact hl t ht
theorem gu {q:Nat} (h:∀(w w':World) (v:Value),Φ p w v->Φ q w' v) (hl:∀t,t ∈ l->cH P Φ t):∀t,t ∈ Step.freed y p q :: l->cH P Φ t:=λt ht=>by
 rcases List.mem_cons.1 ht with rfl | ht
 ·exact .freed h
 ·exact hl t ht
theorem iA  (hl:∀t,t ∈ l->cH P Φ t):∀t,t ∈ Step.rounds m :: l->cH P Φ t:=λt ht=>by
 rcases List.mem_cons.1 ht with rfl | ht
 ·exact .rounds
 ·exact hl t ht
theorem bN {s:Step} (h:cH P Φ s) (hl:∀t,t ∈ l->cH P Φ t):∀t,t ∈ s :: l->cH P Φ t:=λt ht=>by
 rcases List.mem_cons.1 ht with rfl | ht
 ·exact h
 ·exact hl t ht
theorem counted {d:bp}{rounds:List (List Step×List Src)}{out:List Step} (n:Nat) (Ψ:Nat->Nat->World->Value->Prop) (pk:Nat->Nat) (hΨ:∀j p,p<d.m->Ψ j p=Φ p) (h0:lk Φ (Ψ 0) d.facts d.init)
  (hr:∀j,j<n->∃r,rounds[pk j]?=some r∧lk (Ψ j) (Ψ (j+1)) d.facts r.2∧∀t,t ∈ r.1->cH P (Ψ j) t) (ho:∀t,t ∈ out->cH P (Ψ n) t) (hpost:∀q,q ∈ d.post->∀w v,Ψ n q.1 w v->Φ q.2 w v):cH P Φ (.loop d rounds out):=by
 refine .loop {j:Nat // j<=n} (λj=>Ψ j.1) (λj=>n-j.1) (λj=>j.1<n) ⟨0,Nat.zero_le _⟩ (λj=>pk j.1) (λj=>if h:j.1<n then ⟨j.1+1,h⟩ else j) (λj p hp=>hΨ j.1 p hp) h0 (λj hj=>?_) (λj hj=>?_) (λj hj r hr'=>?_) (λj hj r hr'=>?_) (λj hj=>?_) (λj hj=>?_)
 ·obtain ⟨r,h1,_⟩:=hr j.1 hj;exact (List.getElem?_eq_some_iff.1 h1).1
 ·rw [dif_pos hj];show n-(j.1+1)<n-j.1;omega
 ·obtain ⟨r',h1,h2,_⟩:=hr j.1 hj;obtain rfl:=Option.some.inj (h1.symm.trans hr');rw [dif_pos hj];exact h2
 ·obtain ⟨r',h1,_,h3⟩:=hr j.1 hj;obtain rfl:=Option.some.inj (h1.symm.trans hr');exact h3
 ·have e:j.1=n:=by have:=j.2;omega
  rw [e];exact ho
 ·have e:j.1=n:=by have:=j.2;omega
  rw [e];exact hpost
end
def aC (T:TypeId):Op->Option (List Operand)
 | .call ⟨.builtin .len,args,ts⟩=>if ts = #[T] then some args.toList else none
 | _=>none
def LS:BinOp->BinOp->Bool
 | .lss,.lss=>true | .leq,.leq=>true | .gtr,.gtr=>true | .geq,.geq=>true | .eql,.eql=>true | .neq,.neq=>true | .add,.add=>true | .sub,.sub=>true | .mul,.mul=>true | _,_=>false
theorem aip {x y:BinOp} (h:LS x y=true):x=y:=by cases x <;> cases y <;> first | rfl | cases h
def am (op:BinOp):Op->Option (List Operand)
 | .binOp o _ x y _=>if LS o op then some [x,y] else none
 | _=>none
def adK (T:TypeId):Op->Option (List Operand)
 | .indexAddr t x i=>if t=T then some [x,i] else none
 | _=>none
def aQ (T:TypeId):Op->Option (List Operand)
 | .load t x=>if t=T then some [x] else none
 | _=>none
def Arr (sz:Nat) (F:Nat->World->Value->Prop) (n:Nat) (w:World) (v:Value):Prop:=
 ∃p c,v = .slice p n c∧∀i,i<n->∃b off,p=some ⟨b,off,none⟩∧∃l:List Value,l.length=sz∧(∀(j:Nat) (u:Value),l[j]?=some u->w.cell? ⟨b,off+i*sz+j,none⟩=some u)∧F i w (.agg l.toArray)
def Ptr (sz:Nat) (F:World->Value->Prop) (w:World) (v:Value):Prop:=
 ∃b o,v = .pointer (some ⟨b,o,none⟩)∧∃l:List Value,l.length=sz∧(∀(j:Nat) (u:Value),l[j]?=some u->w.cell? ⟨b,o+j,none⟩=some u)∧F w (.agg l.toArray)
section
variable {P:Program}{q x:Nat}{a b:Int}
theorem lF  (hT:P.underlying T=some (.slice e)) (hp:∀w v,Φ p w v->Arr sz F n w v) (hx:Φ x=λ_ v=>v = .int .i64 (n:Int)):aj Φ P ⟨0,[.fact p],[⟨.one .i,[(0,0,x)]⟩],.quiet (aC T)⟩:=λX w ac o xs _ hm ha=>by
 unfold aC at hm;split at hm
 case h_2=>cases hm
 rename_i args ts ho;split at hm
 case isFalse=>cases hm
 rename_i hts;subst hts;simp only [Option.some.injEq] at hm;subst hm
 match hl:args.toList,ha with
 | [y],ha=>
  obtain ⟨s,c,hv,_⟩:=hp _ _ (ha.1 w (Off.refl _ _));have hargs:args = #[y]:=by apply Array.ext';simpa using hl
  subst hargs;refine ⟨.int .i64 n,w,?_,bH w none,⟨⟨⟨⟨_,rfl⟩,λ_ h=>by cases h⟩,λr hr w1 hw=>?_⟩,trivial⟩⟩
  ·unfold execOp;simp [ho,resolve,invoke,builtin,Builtin.len_,run_underlying hT,hv,goInt]
  ·simp only [List.mem_singleton] at hr;subst hr;show Φ x w1 _;rw [hx];rfl
theorem mn {ni:Int} (hn:(n:Int)=ni) (hT:P.underlying T=some (.slice e)) (hp:∀w v,Φ p w v->Arr sz F n w v):aj Φ P ⟨0,[.fact p],[⟨.one (.lit (.ci .i64 ni)),[]⟩],.quiet (aC T)⟩:=λX w ac o xs _ hm ha=>by
 subst hn;unfold aC at hm;split at hm
 case h_2=>cases hm
 rename_i args ts ho;split at hm
 case isFalse=>cases hm
 rename_i hts;subst hts;simp only [Option.some.injEq] at hm;subst hm
 match hl:args.toList,ha with
 | [y],ha=>
  obtain ⟨s,c,hv,_⟩:=hp _ _ (ha.1 w (Off.refl _ _));have hargs:args = #[y]:=by apply Array.ext';simpa using hl
  subst hargs;refine ⟨.int .i64 n,w,?_,bH w none,⟨⟨⟨rfl,λ_ h=>by cases h⟩,λr hr=>by cases hr⟩,trivial⟩⟩;unfold execOp;simp [ho,resolve,invoke,builtin,Builtin.len_,run_underlying hT,hv,goInt]
theorem mZ {yt:TypeId}{y z:Operand}{ac:Act}{r:Value} (ho:o.op = .binOp op t y z yt) (h1:ac.eval y = .int .i64 a) (h2:ac.eval z = .int .i64 b) (h:(binOp op t (.int .i64 a) (.int .i64 b)).run P w = .ok r w):(execOp ac.eval o).run P w = .ok (.value r) w:=by
 unfold execOp;simp only [ho,h1,h2,Sem.run_bind];have hg:(eqGuard op t y z (.int .i64 a) (.int .i64 b)).run P w = .ok () w:=by unfold eqGuard;cases op <;> simp
 simp [hg,h]
theorem oA {o:Op} (h:am op o=some xs):∃t y z yt,o = .binOp op t y z yt∧xs = [y,z]:=by
 unfold am at h;split at h
 case h_2=>cases h
 rename_i o' t y z yt;split at h
 case isFalse=>cases h
 rename_i hc;simp only [Option.some.injEq] at h;exact ⟨t,y,z,yt,by rw [aip hc],h.symm⟩
theorem eJ {r:Bool} (hp:∀w v,Φ p w v->v = .int .i64 a) (hq:∀w v,Φ q w v->v = .int .i64 b) (h:∀t w,(binOp op t (.int .i64 a) (.int .i64 b)).run P w = .ok (.bool r) w):aj Φ P ⟨0,[.fact p,.fact q],[⟨.one (.lit (.cb r)),[]⟩],.quiet (am op)⟩:=λX w ac o xs _ hm ha=>by obtain ⟨t,y,z,yt,ho,rfl⟩:=oA hm;exact ⟨.bool r,w,mZ ho (hp _ _ (ha.1 w (Off.refl _ _))) (hq _ _ (ha.2.1 w (Off.refl _ _))) (h t w),bH w none,⟨⟨⟨rfl,λ_ h=>by cases h⟩,λr hr=>by cases hr⟩,trivial⟩⟩
theorem cn {r:Bool} (hp:∀w v,Φ p w v->v = .int .i64 a) (h:∀t w,(binOp op t (.int .i64 a) (.int .i64 b)).run P w = .ok (.bool r) w):aj Φ P ⟨0,[.fact p,.lit (.ci .i64 b)],[⟨.one (.lit (.cb r)),[]⟩],.quiet (am op)⟩:=λX w ac o xs _ hm ha=>by obtain ⟨t,y,z,yt,ho,rfl⟩:=oA hm;exact ⟨.bool r,w,mZ ho (hp _ _ (ha.1 w (Off.refl _ _))) ha.2.1 (h t w),bH w none,⟨⟨⟨rfl,λ_ h=>by cases h⟩,λr hr=>by cases hr⟩,trivial⟩⟩
theorem lG  (hT:P.underlying T=some (.slice e)) (hz:dU P e=some sz) (hp:∀w v,Φ p w v->Arr sz F n w v) (hq:∀w v,Φ q w v->v = .int .i64 (i:Int)) (hi:i<n) (hx:Φ x=λw v=>Ptr sz (F i) w v):aj Φ P ⟨0,[.fact p,.fact q],[⟨.one .p,[(0,0,x)]⟩],.quiet (adK T)⟩:=λX w ac o xs _ hm ha=>by
 unfold adK at hm;split at hm
 case h_2=>cases hm
 rename_i t y z ho;split at hm
 case isFalse=>cases hm
 rename_i ht;subst ht;simp only [Option.some.injEq] at hm;subst hm;obtain ⟨s,c,hv,he⟩:=hp _ _ (ha.1 w (Off.refl _ _));obtain ⟨b,off,rfl,_⟩:=he i hi;have hi2:=hq _ _ (ha.2.1 w (Off.refl _ _));refine ⟨.pointer (some ⟨b,off+i*sz,none⟩),w,?_,bH w none,⟨⟨⟨⟨_,rfl⟩,λ_ h=>by cases h⟩,λr hr w1 hw=>?_⟩,trivial⟩⟩
 ·unfold execOp;have h4:¬n<=i:=by omega
  simp [ho,hv,hi2,Instr.indexAt,asIntOf,run_underlying hT,run_sizeOf hz,jH,h4]
 ·simp only [List.mem_singleton] at hr;subst hr;show Φ x w1 _;rw [hx];obtain ⟨s',c',hv',he'⟩:=hp _ _ (ha.1 w1 hw);obtain ⟨b',off',hb,l,h1,h2,h3⟩:=he' i hi;rw [hv] at hv';simp only [Value.slice.injEq] at hv';obtain ⟨h4,_⟩:=hv';rw [<- h4] at hb;simp only [Option.some.injEq,Addr.mk.injEq] at hb;obtain ⟨rfl,rfl,_⟩:=hb;exact ⟨b,_,rfl,l,h1,h2,h3⟩
theorem eg  (i:Nat){ii:Int} (hT:P.underlying T=some (.slice e)) (hp:∀w v,Φ p w v->Arr sz F n w v) (hii:(i:Int)=ii) (hx:Φ x=λw v=>Ptr sz (F i) w v) (hz:dU P e=some sz:=by kernel_rfl) (hi:i<n:=by omega):aj Φ P ⟨0,[.fact p,.lit (.ci .i64 ii)],[⟨.one .p,[(0,0,x)]⟩],.quiet (adK T)⟩:=λX w ac o xs _ hm ha=>by
 subst hii;unfold adK at hm;split at hm
 case h_2=>cases hm
 rename_i t y z ho;split at hm
 case isFalse=>cases hm
 rename_i ht;subst ht;simp only [Option.some.injEq] at hm;subst hm;obtain ⟨s,c,hv,he⟩:=hp _ _ (ha.1 w (Off.refl _ _));obtain ⟨b,off,rfl,_⟩:=he i hi;have hi2:ac.eval z = .int .i64 (i:Int):=ha.2.1;refine ⟨.pointer (some ⟨b,off+i*sz,none⟩),w,?_,bH w none,⟨⟨⟨⟨_,rfl⟩,λ_ h=>by cases h⟩,λr hr w1 hw=>?_⟩,trivial⟩⟩
 ·unfold execOp;have h4:¬n<=i:=by omega
  simp [ho,hv,hi2,Instr.indexAt,asIntOf,run_underlying hT,run_sizeOf hz,jH,h4]
 ·simp only [List.mem_singleton] at hr;subst hr;show Φ x w1 _;rw [hx];obtain ⟨s',c',hv',he'⟩:=hp _ _ (ha.1 w1 hw);obtain ⟨b',off',hb,l,h1,h2,h3⟩:=he' i hi;rw [hv] at hv';simp only [Value.slice.injEq] at hv';obtain ⟨h4,_⟩:=hv';rw [<- h4] at hb;simp only [Option.some.injEq,Addr.mk.injEq] at hb;obtain ⟨rfl,rfl,_⟩:=hb;exact ⟨b,_,rfl,l,h1,h2,h3⟩
theorem bT {F:World->Value->Prop} (hp:∀w v,Φ p w v->Ptr sz F w v) (hm':∀w w1 v,Kp w w1->F w v->F w1 v) (hs:∀w v,F w v->sh.is v) (hx:Φ x=F) (hT:gV P T=some true:=by kernel_rfl) (hz:dU P T=some sz:=by kernel_rfl):aj Φ P ⟨0,[.fact p],[⟨sh,[(0,0,x)]⟩],.quiet (aQ T)⟩:=λX w ac o xs _ hm ha=>by
 unfold aQ at hm;split at hm
 case h_2=>cases hm
 rename_i t y ho;split at hm
 case isFalse=>cases hm
 rename_i ht;subst ht;simp only [Option.some.injEq] at hm;subst hm;obtain ⟨b,off,hv,l,h1,h2,h3⟩:=hp _ _ (ha.1 w (Off.refl _ _));refine ⟨.agg l.toArray,w,?_,bH w none,⟨⟨hs _ _ h3,λr hr w1 hw=>?_⟩,trivial⟩⟩
 ·have hrun:=run_loadCells_list (P:=P) w ⟨b,off,none⟩ l (λj u hj=>by rw [jH];exact h2 j u hj);rw [h1] at hrun;unfold execOp;simp [ho,hv,Instr.loadAt,Instr.sureAddr,loadVar,gW hT,run_sizeOf hz,hrun]
 ·simp only [List.mem_singleton] at hr;subst hr;show Φ x w1 _;rw [hx];exact hm' _ _ _ hw.1 h3
theorem mN {J:List Nat}{F:World->Value->Prop} (hp:∀w v,Φ p w v->Ptr sz F w v) (hm':∀w w1 v,Kp w w1->F w v->F w1 v) (hs:∀w v,F w v->sh.is v) (hx:Φ x=F) (hT:gV P T=some true:=by kernel_rfl) (hz:dU P T=some sz:=by kernel_rfl):aj Φ P ⟨0,[.fact p],[⟨sh,[(0,0,x)]⟩],.jj J (aQ T)⟩:=λX w ac o xs _ hm ha=>by
 unfold aQ at hm;split at hm
 case h_2=>cases hm
 rename_i t y ho;split at hm
 case isFalse=>cases hm
 rename_i ht;subst ht;simp only [Option.some.injEq] at hm;subst hm;obtain ⟨b,off,hv,l,h1,h2,h3⟩:=hp _ _ (ha.1 w (Off.refl _ _));refine ⟨.agg l.toArray,w,?_,bH w none,λY=>⟨⟨hs _ _ h3,λr hr w1 hw=>?_⟩,trivial⟩⟩
 ·have hrun:=run_loadCells_list (P:=P) w ⟨b,off,none⟩ l (λj u hj=>by rw [jH];exact h2 j u hj);rw [h1] at hrun;unfold execOp;simp [ho,hv,Instr.loadAt,Instr.sureAddr,loadVar,gW hT,run_sizeOf hz,hrun]
 ·simp only [List.mem_singleton] at hr;subst hr;show Φ x w1 _;rw [hx];exact hm' _ _ _ hw.1 h3
end
abbrev WP:=World->Value->Prop
abbrev PH:=Nat->World->Value->Prop
theorem ad {P:α->β->Prop} (a:α) (b:β) (h:P a b):P a b:=h
theorem aV {γ:Type}{P:α->β->γ->Prop} (a:α) (b:β) (c:γ) (h:P a b c):P a b c:=h
theorem bI {P:α->β->Prop} (a:α) (b:β) (_:P a b):True:=trivial
abbrev oT:List Out:=[⟨.one (.lit (.cb true)),[]⟩]
abbrev oF:List Out:=[⟨.one (.lit (.cb false)),[]⟩]
abbrev oL (a:Atom):Out:=⟨.one (.lit a),[]⟩
abbrev oS (x:Nat):Out:=⟨.one .s,[(0,0,x)]⟩
abbrev oN (x:Nat):Out:=⟨.one .i,[(0,0,x)]⟩
abbrev oP (x:Nat):Out:=⟨.one .p,[(0,0,x)]⟩
abbrev oK (x:Nat):Out:=⟨.one .nk,[(0,0,x)]⟩
abbrev oI (x:Nat):Out:=⟨.agg [.b,.s],[(0,0,x)]⟩
abbrev oR (x:Nat):Out:=⟨.agg [.b,.s,.b,.s],[(0,0,x)]⟩
abbrev oD (x:Nat):Out:=⟨.agg [.s,.b],[(0,0,x)]⟩
abbrev oQ (x:Nat):Out:=⟨.agg [.s,.b,.s,.b],[(0,0,x)]⟩
abbrev bQ (a:List Arg) (o:List Out) (m:Op->Option (List Operand)):Step:=.base ⟨0,a,o,.quiet m⟩
theorem lB {P:Program}{Φ:PH} (h:aj Φ P s) (hl:∀t,t ∈ l->cH P Φ t):∀t,t ∈ Step.base s :: l->cH P Φ t:=aio h hl
end Go.Proofs.YtlmanbjkkjfjgaaGreat.Sym
