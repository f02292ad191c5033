/- Contracts as calls of th -/
import Derived.Test.YtbjfgffibepmkaaGreatSym
import Derived.Test.YtbjfgffibepmkaaGreatRats
namespace Go.Proofs.YtbjfgffibepmkaaGreat.Sym
open Go.Proofs.Tryz
open Go.RowKit
variable {p' s:Option Addr}{f:FuncId}{a:Arg}{outs:List Out}{b b' r bz:Bool}{X:Nat->Prop}{w w':World}{c c' i j k n' p x:Nat}{v:Value}{F:World->Value->Prop}{sh:bW}{t y z:Int}{xs ys:List Nat}
def ph (L:List (World->Value->Prop)) (p:Nat):World->Value->Prop:=L.getD p (fun _ _=>True)
def iS:bW:=.agg [.b,.s]
def dS:bW:=.agg [.s,.b]
def qS:bW:=.agg [.b,.s,.b,.s]
def sS:bW:=.agg [.s,.b,.s,.b]
abbrev If (z:Nat->Int) (k i:Nat) (w:World) (v:Value):Prop:=aF w v (z i) k
abbrev Nf (z:Nat->Int) (k i:Nat) (w:World) (v:Value):Prop:=ak w v (z i) k
abbrev Df (z:Nat->Rat) (k i:Nat) (w:World) (v:Value):Prop:=af w v (z i) k
abbrev Iw (z:Int) (k:Nat) (w:World) (v:Value):Prop:=aF w v z k
abbrev Nw (z:Int) (k:Nat) (w:World) (v:Value):Prop:=ak w v z k
abbrev Dw (z:Rat) (k:Nat) (w:World) (v:Value):Prop:=af w v z k
abbrev Ni (z:Int) (_:World) (v:Value):Prop:=v = .int .i64 z
abbrev Nz (z:Nat) (_:World) (v:Value):Prop:=v = .int .i64 (z:Int)
abbrev Nu (z:Int) (_:World) (v:Value):Prop:=v = .int .u64 z
section
variable {P:Program}{Φ:Nat->World->Value->Prop}
theorem all_cons {s:Site}{l:List Site} (h:aj Φ P s) (hl:∀t,t ∈ l->aj Φ P t):∀t,t ∈ s :: l->aj Φ P t:=fun t ht=>by
 rcases List.mem_cons.1 ht with rfl | ht
 ·exact h
 ·exact hl t ht
def post (Φ:Nat->World->Value->Prop) (X:Nat->Prop) (outs:List Out) (bz:Bool) (w:World) (e:Ending) (w':World):Prop:=
 w.grownBy w' none∧∃us:List Value,e = .returned (if bz then .tuple us.toArray else us.headD undef)∧ch Φ X w' outs us
theorem fU  (h:∀X w v,a.ok Φ X w v->Calls P f #[v] w (post Φ X outs bz w)):aj Φ P ⟨f,[a],outs,bz⟩:=fun X w vs _ ha=>by
 match vs,ha with
 | [v],ha=>exact h X w v ha.1
theorem fw {b:Arg} (h:∀X w v u,a.ok Φ X w v->b.ok Φ X w u->Calls P f #[v,u] w (post Φ X outs bz w)):aj Φ P ⟨f,[a,b],outs,bz⟩:=fun X w vs _ ha=>by
 match vs,ha with
 | [v,u],ha=>exact h X w v u ha.1 ha.2.1
theorem get  (h:(Arg.fact p).ok Φ X w v):Φ p w v:=h w (Off.refl _ _)
theorem o1  (hm:∀w w1 v,Kp w w1->F w v->F w1 v) (hp:Φ p=F) (hs:sh.is v) (h:F w v) :
  sh.is v∧∀q,q ∈ [(0,0,p)]->∀w1,Off X w w1->Φ q.2.2 w1 (bn q.1 q.2.1 v):=⟨hs,fun q hq w1 hw=>by
 simp only [List.mem_singleton] at hq
 subst hq
 show Φ p w1 v
 rw [hp];exact hm w w1 v hw.1 h⟩
theorem o0  (hs:sh.is v):sh.is v∧∀q,q ∈ ([]:List (Nat×Nat×Nat))->∀w1,Off X w w1->Φ q.2.2 w1 (bn q.1 q.2.1 v):=⟨hs,fun q hq=>by cases hq⟩
theorem ow {p:Option Addr}{n:Nat}:iS.is (.agg #[.bool b,.slice p n c]):=⟨[.bool b,.slice p n c],rfl,⟨_,rfl⟩,⟨_,_,_,rfl⟩,trivial⟩
theorem FJ {p:Option Addr}{n:Nat}:dS.is (.agg #[.slice p n c,.bool b]):=⟨[.slice p n c,.bool b],rfl,⟨_,_,_,rfl⟩,⟨_,rfl⟩,trivial⟩
theorem sa {p:Option Addr}{n:Nat}:qS.is (.agg #[.bool b,.slice p n c,.bool b',.slice p' n' c']):=⟨[.bool b,.slice p n c,.bool b',.slice p' n' c'],rfl,⟨_,rfl⟩,⟨_,_,_,rfl⟩,⟨_,rfl⟩,⟨_,_,_,rfl⟩,trivial⟩
theorem aap {p:Option Addr}{n:Nat}:sS.is (.agg #[.slice p n c,.bool b,.slice p' n' c',.bool b']):=⟨[.slice p n c,.bool b,.slice p' n' c',.bool b'],rfl,⟨_,_,_,rfl⟩,⟨_,rfl⟩,⟨_,_,_,rfl⟩,⟨_,rfl⟩,trivial⟩
def QV (w:World) (v:Value) (z y:Int) (k:Nat):Prop:=∃b p n c b' p' n' c',v = .agg #[.bool b,.slice p n c,.bool b',.slice p' n' c']∧aF w (.agg #[.bool b,.slice p n c]) z k∧aF w (.agg #[.bool b',.slice p' n' c']) y k
theorem QV.kp  (h:QV w v z y k) (g:Kp w w'):QV w' v z y k:=by
 obtain ⟨b,p,n,c,b',p',n',c',h1,h2,h3⟩:=h
 exact ⟨b,p,n,c,b',p',n',c',h1,h2.kp g,h3.kp g⟩
theorem QV.q  (h:QV w v z y k):fo w v (aW z y) k:=by
 obtain ⟨b,p,n,c,b',p',n',c',h1,h2,h3⟩:=h
 exact ⟨b,p,n,c,b',p',n',c',z,y,h1,h2,h3,rfl⟩
def aH (w:World) (v:Value) (b:Bool) (xs:List Nat):Prop:=∃s,v = .agg #[.bool b,s]∧Sl w .u32 s xs∧All 4294967296 xs
def fH (w:World) (v:Value) (b:Bool) (xs:List Nat) (b':Bool) (ys:List Nat):Prop:=∃s s',v = .agg #[.bool b,s,.bool b',s']∧Sl w .u32 s xs∧All 4294967296 xs∧Sl w .u32 s' ys∧All 4294967296 ys
theorem aH.kp  (h:aH w v b xs) (g:Kp w w'):aH w' v b xs:=by
 obtain ⟨s,h1,h2,h3⟩:=h
 exact ⟨s,h1,h2.kp g,h3⟩
theorem fH.kp  (h:fH w v b xs b' ys) (g:Kp w w'):fH w' v b xs b' ys:=by
 obtain ⟨s,s',h1,h2,h3,h4,h5⟩:=h
 exact ⟨s,s',h1,h2.kp g,h3,h4.kp g,h5⟩
theorem aH.is  (h:aH w v b xs):iS.is v:=by
 obtain ⟨s,rfl,h2,_⟩:=h
 obtain ⟨p,c,rfl,_⟩:=h2
 exact ow
theorem fH.is  (h:fH w v b xs b' ys):qS.is v:=by
 obtain ⟨s,s',rfl,h2,_,h4,_⟩:=h
 obtain ⟨p,c,rfl,_⟩:=h2
 obtain ⟨p',c',rfl,_⟩:=h4
 exact sa
theorem QV.fst  (h:QV w v z y k):aF w (bn 0 2 v) z k:=by obtain ⟨_,_,_,_,_,_,_,_,rfl,h1,_⟩:=h;exact h1
theorem QV.snd  (h:QV w v z y k):aF w (bn 2 2 v) y k:=by obtain ⟨_,_,_,_,_,_,_,_,rfl,_,h2⟩:=h;exact h2
theorem af.fst {q:Rat} (h:af w v q k):ai w (bn 0 2 v) q.num k:=by obtain ⟨_,_,_,_,_,_,_,_,rfl,h1,_⟩:=h;exact h1
theorem af.snd {q:Rat} (h:af w v q k):ai w (bn 2 2 v) (q.den:Int) k:=by obtain ⟨_,_,_,_,_,_,_,_,rfl,_,h2⟩:=h;exact h2
theorem fo.qv {q:Rat} (h:fo w v q k):∃z y,QV w v z y k∧aW z y=q:=by
 obtain ⟨b,p,n,c,b',p',n',c',z,y,h1,h2,h3,h4⟩:=h
 exact ⟨z,y,⟨b,p,n,c,b',p',n',c',h1,h2,h3⟩,h4⟩
section
variable {q:Rat}
theorem iI:∀w v,aF w v z k->aF w v z k:=fun _ _ h=>h
theorem nI:∀w v,ak w v z k->aF w v z k:=fun _ _ h=>h.i
theorem nN:∀w v,ak w v z k->ak w v z k:=fun _ _ h=>h
theorem dD:∀w v,ai w v z k->ai w v z k:=fun _ _ h=>h
theorem tS:∀w v,af w v q k->af w v q k:=fun _ _ h=>h
end
section
variable {e:Ending}{t:Rat}{p1 p2:Nat}
theorem FK (hp:Φ p=fun w v=>ak w v z k){n:Nat} (hv:v = .agg #[.bool b,.slice s n c]) (h:ak w v z k):iS.is v∧∀q,q ∈ [(0,0,p)]->∀w1,Off X w w1->Φ q.2.2 w1 (bn q.1 q.2.1 v):=
 o1 (F:=fun w v=>ak w v z k) (fun _ _ _ g h=>ak.kp h g) hp (hv▸ow) h
theorem aaq (hp:Φ p=fun w v=>ai w v z k){n:Nat} (hv:v = .agg #[.slice s n c,.bool b]) (h:ai w v z k):dS.is v∧∀q,q ∈ [(0,0,p)]->∀w1,Off X w w1->Φ q.2.2 w1 (bn q.1 q.2.1 v):=
 o1 (F:=fun w v=>ai w v z k) (fun _ _ _ g h=>ai.kp h g) hp (hv▸FJ) h
theorem ek.is {q:Rat} (h:ek w v q k):qS.is v:=by obtain ⟨_,_,_,_,_,_,_,_,rfl,_⟩:=h;exact sa
theorem QV.is  (h:QV w v z y k):qS.is v:=by obtain ⟨_,_,_,_,_,_,_,_,rfl,_⟩:=h;exact sa
theorem fo.is {q:Rat} (h:fo w v q k):qS.is v:=by obtain ⟨_,_,_,_,_,_,_,_,_,_,rfl,_⟩:=h;exact sa
theorem af.is {q:Rat} (h:af w v q k):sS.is v:=by obtain ⟨_,_,_,_,_,_,_,_,rfl,_⟩:=h;exact aap
theorem aF.is  (h:aF w v z k):iS.is v:=by
 obtain ⟨b,p,n,c,rfl,_⟩:=h.open;exact ow
theorem ak.is  (h:ak w v z k):iS.is v:=aF.is h.i
theorem ai.is  (h:ai w v z k):dS.is v:=by
 obtain ⟨p,c,rfl,_⟩:=h;exact FJ
theorem af.n {q:Rat} (h:af w v q k):∃p n c b p' n' c' b',v = .agg #[.slice p n c,.bool b,.slice p' n' c',.bool b']∧ai w (.agg #[.slice p n c,.bool b]) q.num k∧ai w (.agg #[.slice p' n' c',.bool b']) (q.den:Int) k:=h
theorem aar (hp:Φ p=fun w v=>af w v t k) (h1:Φ p1=fun w v=>ai w v t.num k) (h2:Φ p2=fun w v=>ai w v (t.den:Int) k) (h:af w v t k) :
  sS.is v∧∀q,q ∈ [(0,0,p),(0,2,p1),(2,2,p2)]->∀w1,Off X w w1->Φ q.2.2 w1 (bn q.1 q.2.1 v):=by
 refine ⟨af.is h,fun q hq w1 hw=>?_⟩
 have h':=h.kp hw.1
 obtain ⟨b,s,n,c,b',s',n',c',rfl,a1,a2⟩:=id h'
 simp only [List.mem_cons,List.not_mem_nil,or_false] at hq
 rcases hq with rfl | rfl | rfl
 ·show Φ p w1 _;rw [hp];exact h'
 ·show Φ p1 w1 _;rw [h1];exact a1
 ·show Φ p2 w1 _;rw [h2];exact a2
theorem jj (hp:Φ p=fun w v=>ak w v z k) (h:jY w z k e w'):post Φ X [⟨iS,[(0,0,p)]⟩] false w e w':=by
 obtain ⟨b,s,n,c,rfl,h1,h2⟩:=h
 exact ⟨h2,[_],rfl,FK hp rfl h1,trivial⟩
theorem aas (hp:Φ p=fun w v=>ak w v z k) (h:Eg w z k e w'):post Φ X [⟨iS,[(0,0,p)]⟩,⟨.one (.lit (.ci .i64 0)),[]⟩] true w e w':=by
 obtain ⟨b,s,n,c,rfl,h1,h2⟩:=h
 exact ⟨h2,[_,_],rfl,FK hp rfl h1,o0 ⟨rfl,fun _ h=>by cases h⟩,trivial⟩
theorem ke (hp:Φ p=fun w v=>ai w v z k) (h:fY w z k e w'):post Φ X [⟨dS,[(0,0,p)]⟩] false w e w':=by
 obtain ⟨s,n,c,b,rfl,h1,h2⟩:=h
 exact ⟨h2,[_],rfl,aaq hp rfl h1,trivial⟩
theorem oz (hp:Φ p=fun w v=>af w v t k) (q1:Φ p1=fun w v=>ai w v t.num k) (q2:Φ p2=fun w v=>ai w v (t.den:Int) k) (h:jp w t k e w'):post Φ X [⟨sS,[(0,0,p),(0,2,p1),(2,2,p2)]⟩] false w e w':=by
 obtain ⟨b,s,n,c,b',s',n',c',rfl,h1,h2⟩:=h
 exact ⟨h2,[_],rfl,aar hp q1 q2 h1,trivial⟩
theorem FL {a:Atom} (h:e = .returned (a.ev cV)∧w.grownBy w' none) (hn:∀l,a.ev cV≠.agg l):post Φ X [⟨.one (.lit a),[]⟩] false w e w':=by
 obtain ⟨rfl,h2⟩:=h
 exact ⟨h2,[_],rfl,o0 ⟨rfl,hn⟩,trivial⟩
theorem vU  (h:e = .returned (.bool b)∧w.grownBy w' none):post Φ X [⟨.one (.lit (.cb b)),[]⟩] false w e w':=FL h (fun _ h=>by cases h)
theorem RG {x:Int} (h:e = .returned (.int .i64 x)∧w.grownBy w' none):post Φ X [⟨.one (.lit (.ci .i64 x)),[]⟩] false w e w':=FL h (fun _ h=>by cases h)
end
inductive Pm where
 | fact (p:Nat) (sh:bW) | lit (a:Atom) | sub (p:Nat) (sh:bW) (fs:List (Nat×Nat×Nat)) | parts (sh:bW) (fs:List (Nat×Nat×Nat))
def Pm.arg:Pm->Arg
 | .fact p _=>.fact p
 | .sub p _ _=>.fact p
 | .lit a=>.lit a
 | .parts sh fs=>.parts sh fs
def Pm.out:Pm->Out
 | .fact p sh=>⟨sh,[(0,0,p)]⟩
 | .sub p sh fs=>⟨sh,(0,0,p) :: fs⟩
 | .lit a=>⟨.one (.lit a),[]⟩
 | .parts sh fs=>⟨sh,fs⟩
def pA (Φ:Nat->World->Value->Prop) (p:Nat):List (Nat×Nat×Nat)->Prop
 | []=>True
 | q :: l=>(∀w v,Φ p w v->Φ q.2.2 w (bn q.1 q.2.1 v))∧pA Φ p l
theorem pA.at {p:Nat}:∀{l:List (Nat×Nat×Nat)},pA Φ p l->∀q,q ∈ l->∀w v,Φ p w v->Φ q.2.2 w (bn q.1 q.2.1 v)
 | _ :: l,h,q,hq=>by
  rcases List.mem_cons.1 hq with rfl | hq
  ·exact h.1
  ·exact pA.at h.2 q hq
def Pm.fine (Φ:Nat->World->Value->Prop):Pm->Prop
 | .fact p sh=>∀w v,Φ p w v->sh.is v
 | .sub p sh fs=>(∀w v,Φ p w v->sh.is v)∧pA Φ p fs
 | .lit a=>∀l,a.ev cV≠.agg l
 | .parts _ _=>True
def FM (Φ:Nat->World->Value->Prop):List Pm->Prop
 | []=>True
 | x :: xs=>x.fine Φ∧FM Φ xs
theorem aM:∀(l:List Pm) (_:FM Φ l) (X:Nat->Prop) (w:World) (vs:List Value),(∀k,X k->k<w.heap.size)->cQ Φ X w (l.map Pm.arg) vs->ch Φ X w (l.map Pm.out) vs
 | [],_,_,_,[],_,_=>trivial
 | x :: xs,hf,X,w,v :: vs,hX,ha=>by
  refine ⟨?_,aM xs hf.2 X w vs hX ha.2⟩
  cases x with
  | fact p sh=>
   refine ⟨hf.1 w v (get ha.1),fun q hq w1 hw=>?_⟩
   have hq':q=(0,0,p):=by simpa [Pm.out] using hq
   subst hq'
   exact ha.1 w1 hw
  | sub p sh fs=>
   refine ⟨hf.1.1 w v (get ha.1),fun q hq w1 hw=>?_⟩
   rcases List.mem_cons.1 hq with rfl | hq
   ·exact ha.1 w1 hw
   ·exact hf.1.2.at q hq w1 v (ha.1 w1 hw)
  | lit a=>
   have h0:v=a.ev cV:=ha.1
   subst h0
   exact o0 ⟨rfl,hf.1⟩
  | parts sh fs=>exact ha.1
 | [],_,_,_,_ :: _,_,h=>h.elim
 | _ :: _,_,_,_,[],_,h=>h.elim
theorem QV.join {i j:Nat} (hs:qS.is v) (h1:aF w (bn 0 2 v) z i) (h2:aF w (bn 2 2 v) y j) (hi:i<=k) (hj:j<=k):QV w v z y k:=by
 obtain ⟨vs,rfl,h⟩:=hs
 match vs,h with
 | [v0,v1,v2,v3],h=>
  obtain ⟨⟨b,rfl⟩,⟨p,n,c,rfl⟩,⟨b',rfl⟩,⟨p',n',c',rfl⟩,_⟩:=h
  exact ⟨b,p,n,c,b',p',n',c',rfl,h1.more hi,h2.more hj⟩
section
variable {p1 p2:Nat}
end
section
variable {ar:List Arg}{vs:List Value}{t:Rat}
theorem aat {fs:List (Nat×Nat×Nat)} (h:aj Φ P ⟨f,ar,[⟨sh,fs⟩],false⟩) (ha:cQ Φ (fun _=>False) w ar vs){R:Ending->World->Prop}
  (hR:∀u w',w.grownBy w' none->sh.is u->(∀q,q ∈ fs->Φ q.2.2 w' (bn q.1 q.2.1 u))->R (.returned u) w'):Calls P f vs.toArray w R:=by
 refine (h (fun _=>False) w vs (fun _ h=>h.elim) ha).mono fun e w' ⟨hg,us,he,ho⟩=>?_
 match us,ho with
 | [u],ho=>subst he;exact hR u w' hg ho.1.1 (fun q hq=>ho.1.2 q hq w' (Off.refl _ _))
theorem iX (h:aj Φ P ⟨f,ar,[⟨sS,[(0,0,p)]⟩],false⟩) (hp:Φ p=fun w v=>af w v t k) (ha:cQ Φ (fun _=>False) w ar vs):Calls P f vs.toArray w (jp w t k):=
 aat h ha fun u w' hg _ hf=>by
  have h1:af w' u t k:=by have:=hf (0,0,p) (by simp);rw [hp] at this;exact this
  obtain ⟨s,n,c,b,s',n',c',b',rfl,_⟩:=id h1
  exact ⟨s,n,c,b,s',n',c',b',rfl,h1,hg⟩
end
theorem jq {o o':Out} (h:∀X w v,(o.sh.is v∧∀q,q ∈ o.fs->∀w1,Off X w w1->Φ q.2.2 w1 (bn q.1 q.2.1 v))->o'.sh.is v∧∀q,q ∈ o'.fs->∀w1,Off X w w1->Φ q.2.2 w1 (bn q.1 q.2.1 v)):∀(X:Nat->Prop) (w:World) (us:List Value),ch Φ X w [o] us->ch Φ X w [o'] us:=fun X w us hu=>by
 match us,hu with
 | [u],hu=>exact ⟨h X w u hu.1,trivial⟩
theorem weak  (h:∀w v,Φ p w v->Φ x w v) (X:Nat->Prop) (w:World) (v:Value) (hv:sh.is v∧∀q,q ∈ [(0,0,p)]->∀w1,Off X w w1->Φ q.2.2 w1 (bn q.1 q.2.1 v)):sh.is v∧∀q,q ∈ [(0,0,x)]->∀w1,Off X w w1->Φ q.2.2 w1 (bn q.1 q.2.1 v):=
 ⟨hv.1,fun q hq w1 hw=>by
  simp only [List.mem_singleton] at hq
  subst hq
  exact h w1 _ (hv.2 (0,0,p) (by simp) w1 hw)⟩
theorem halves {p1 p2:Nat} (h:∀w v,sh.is v->Φ p1 w (bn 0 2 v)->Φ p2 w (bn 2 2 v)->Φ x w v) (X:Nat->Prop) (w:World) (v:Value) (hv:sh.is v∧∀q,q ∈ [(0,2,p1),(2,2,p2)]->∀w1,Off X w w1->Φ q.2.2 w1 (bn q.1 q.2.1 v)):sh.is v∧∀q,q ∈ [(0,0,x)]->∀w1,Off X w w1->Φ q.2.2 w1 (bn q.1 q.2.1 v):=
 ⟨hv.1,fun q hq w1 hw=>by
  simp only [List.mem_singleton] at hq
  subst hq
  exact h w1 _ hv.1 (hv.2 (0,2,p1) (by simp) w1 hw) (hv.2 (2,2,p2) (by simp) w1 hw)⟩
theorem ek.join {t:Rat} (hs:qS.is v) (h1:ak w (bn 0 2 v) t.num k) (h2:ak w (bn 2 2 v) (t.den:Int) k):ek w v t k:=by
 obtain ⟨vs,rfl,h⟩:=hs
 match vs,h with
 | [v0,v1,v2,v3],h=>
  obtain ⟨⟨b,rfl⟩,⟨p,n,c,rfl⟩,⟨b',rfl⟩,⟨p',n',c',rfl⟩,_⟩:=h
  exact ⟨b,p,n,c,b',p',n',c',rfl,h1,h2⟩
theorem af.join {t:Rat} (hs:sS.is v) (h1:ai w (bn 0 2 v) t.num k) (h2:ai w (bn 2 2 v) (t.den:Int) k):af w v t k:=by
 obtain ⟨vs,rfl,h⟩:=hs
 match vs,h with
 | [v0,v1,v2,v3],h=>
  obtain ⟨⟨p,n,c,rfl⟩,⟨b,rfl⟩,⟨p',n',c',rfl⟩,⟨b',rfl⟩,_⟩:=h
  exact ⟨p,n,c,b,p',n',c',b',rfl,h1,h2⟩
theorem AX {ar:List Arg} (h:aj Φ P ⟨f,ar,[⟨.one (.lit (.cb true)),[]⟩],false⟩){vs:List Value} (ha:cQ Φ (fun _=>False) w ar vs):Calls P f vs.toArray w (fun e w'=>e = .returned (.bool true)∧w.grownBy w' none):=by
 refine (h (fun _=>False) w vs (fun _ h=>h.elim) ha).mono fun e w' ⟨hg,us,he,ho⟩=>?_
 match us,ho with
 | [u],ho=>
  obtain ⟨⟨⟨h1,_⟩,_⟩,_⟩:=ho
  have h1':u = .bool true:=h1
  subst h1'
  exact ⟨he,hg⟩
theorem mG  (hp:Φ p=F) (hm:∀w w1 v,Kp w w1->F w v->F w1 v) (h:F w v):(Arg.fact p).ok Φ (fun _=>False) w v:=fun w1 hw=>by rw [hp];exact hm w w1 v hw.1 h
end
section
variable {Φ:PH}
theorem qV {q:Nat} (hp:∀w v,Φ p w v->aF w v z i) (hq:∀w v,Φ q w v->aF w v y j) (hx:Φ x=Nw t (i+j)) (ht:z*y=t) (hi:i+j<=1000000:=by omega):aj Φ prog ⟨135,[.fact p,.fact q],[⟨iS,[(0,0,x)]⟩],false⟩:=
 fw fun _ _ _ _ h0 h1=>(Wq (hp _ _ (get h0)) (hq _ _ (get h1)) hi ht).mono fun _ _ h=>jj hx h
theorem Cm {q:Nat} (hp:∀w v,Φ p w v->aF w v z i) (hq:∀w v,Φ q w v->aF w v y j) (hx:Φ x=Nw t (i+j+1)) (ht:z+y=t) (hi:i+j<=1000000:=by omega):aj Φ prog ⟨144,[.fact p,.fact q],[⟨iS,[(0,0,x)]⟩],false⟩:=
 fw fun _ _ _ _ h0 h1=>(Ws (hp _ _ (get h0)) (hq _ _ (get h1)) hi ht).mono fun _ _ h=>jj hx h
theorem SN {i:Nat} (hp:∀w v,Φ p w v->aF w v z i) (hx:Φ x=Nw t i) (ht : -z=t) (hi:i<=1000000:=by omega):aj Φ prog ⟨124,[.fact p],[⟨iS,[(0,0,x)]⟩],false⟩:=
 fU fun _ _ _ h0=>(Wt (hp _ _ (get h0)) hi ht).mono fun _ _ h=>jj hx h
theorem pX {i:Nat} (hp:∀w v,Φ p w v->aF w v z i) (hx:Φ x=Nw t i) (ht:z=t) (hi:i<=1000000:=by omega):aj Φ prog ⟨78,[.fact p],[⟨iS,[(0,0,x)]⟩],false⟩:=
 fU fun _ _ _ h0=>(ht▸Wu (hp _ _ (get h0)) hi).mono fun _ _ h=>jj hx h
theorem sL {q:Nat} (hp:∀w v,Φ p w v->aF w v z i) (hq:∀w v,Φ q w v->aF w v y j) (hx:Φ x=Nw t i) (h0':y≠0) (h1':y∣z) (ht:z / y=t) (hi:i+j<=900000:=by omega):aj Φ prog ⟨125,[.fact p,.fact q],[⟨iS,[(0,0,x)]⟩,oL (.ci .i64 0)],true⟩:=
 fw fun _ _ _ _ h0 h1=>(Wv (hp _ _ (get h0)) (hq _ _ (get h1)) hi h0' h1' ht).mono fun _ _ h=>aas hx h
theorem Rf {z:Int} (hp:∀w v,Φ p w v->v = .int .i64 z) (hx:Φ x=Nw t 2) (h1 : -9223372036854775808<=z) (h2:z<=9223372036854775807) (ht:z=t):aj Φ prog ⟨104,[.fact p],[⟨iS,[(0,0,x)]⟩],false⟩:=
 fU fun _ w v h0=>by
  obtain rfl:=hp _ _ (get h0)
  exact (Ef z h1 h2 ht).mono fun _ _ h=>jj hx h
theorem aau {e:Ending} (hx:Φ x=Ni t) (h:e = .returned (.int .i64 t)∧w.grownBy w' none):post Φ X [oN x] false w e w':=by
 obtain ⟨rfl,h2⟩:=h
 exact ⟨h2,[_],rfl,o1 (F:=Ni t) (fun _ _ _ _ h=>h) hx ⟨⟨_,rfl⟩,fun _ h=>by cases h⟩ rfl,trivial⟩
theorem mf {q:Nat} (hp:∀w v,Φ p w v->aF w v z i) (hq:∀w v,Φ q w v->aF w v y j) (hx:Φ x=Ni t) (hr:dG z y=t) (hi:i+j<=1000000:=by omega):aj Φ prog ⟨138,[.fact p,.fact q],[oN x],false⟩:=
 fw fun _ _ _ _ h0 h1=>(Mn t (hp _ _ (get h0)) (hq _ _ (get h1)) hi hr).mono fun _ _ h=>aau hx h
theorem DB {i:Nat} (hp:∀w v,Φ p w v->ak w v z i) (hr:decide (z=0)=r):aj Φ prog ⟨79,[.fact p],[oL (.cb r)],false⟩:=
 fU fun _ _ _ h0=>(Gb r (hp _ _ (get h0)).1 hr).mono fun _ _ h=>vU h
theorem yE  (hx:Φ x=Nw t 2) (ht:z=t) (h1:-9223372036854775808<=z:=by decide) (h2:z<=9223372036854775807:=by decide):aj Φ prog ⟨104,[.lit (.ci .i64 z)],[⟨iS,[(0,0,x)]⟩],false⟩:=
 fU fun _ w v h0=>by
  obtain rfl:v = .int .i64 z:=h0
  exact (Ef z h1 h2 ht).mono fun _ _ h=>jj hx h
theorem mC {q:Nat} (hp:∀w v,Φ p w v->ai w v z i) (hq:∀w v,Φ q w v->ai w v y j) (hx:Φ x=fun w v=>ai w v t (i+j)) (ht:z*y=t) (hi:i+j<=1000000:=by omega):aj Φ prog ⟨36,[.fact p,.fact q],[⟨dS,[(0,0,x)]⟩],false⟩:=
 fw fun _ _ _ _ h0 h1=>(Ww (hp _ _ (get h0)) (hq _ _ (get h1)) hi ht).mono fun _ _ h=>ke hx h
theorem YO {q:Nat} (hp:∀w v,Φ p w v->ai w v z i) (hq:∀w v,Φ q w v->ai w v y j) (hx:Φ x=fun w v=>ai w v t (i+j+1)) (ht:z+y=t) (hi:i+j<=1000000:=by omega):aj Φ prog ⟨81,[.fact p,.fact q],[⟨dS,[(0,0,x)]⟩],false⟩:=
 fw fun _ _ _ _ h0 h1=>(Wy (hp _ _ (get h0)) (hq _ _ (get h1)) hi ht).mono fun _ _ h=>ke hx h
theorem vT  (hp:∀w v,Φ p w v->ai w v z i) (hx:Φ x=fun w v=>ai w v t i) (ht : -z=t):aj Φ prog ⟨106,[.fact p],[⟨dS,[(0,0,x)]⟩],false⟩:=
 fU fun _ _ _ h0=>(Ei (hp _ _ (get h0)) ht).mono fun _ _ h=>ke hx h
theorem qY {i:Nat} (hp:∀w v,Φ p w v->aF w v z i) (hx:Φ x=fun w v=>ai w v t i) (ht:z=t) (hi:i<=1000000:=by omega):aj Φ prog ⟨37,[.fact p],[⟨dS,[(0,0,x)]⟩],false⟩:=
 fU fun _ _ _ h0=>(ht▸WA (hp _ _ (get h0)) hi).mono fun _ _ h=>ke hx h
theorem tTo {i:Nat} (hp:∀w v,Φ p w v->ai w v z i) (hx:Φ x=Nw t i) (ht:z=t) (hi:i<=1000000:=by omega):aj Φ prog ⟨35,[.fact p],[⟨iS,[(0,0,x)]⟩],false⟩:=
 fU fun _ _ _ h0=>(ht▸WC (hp _ _ (get h0)) hi).mono fun _ _ h=>jj hx h
theorem gK {i:Nat} (hp:∀w v,Φ p w v->ai w v z i) (hr:decide (z=0)=r):aj Φ prog ⟨38,[.fact p],[oL (.cb r)],false⟩:=
 fU fun _ _ _ h0=>(WF (hp _ _ (get h0)) hr).mono fun _ _ h=>vU h
theorem jG  (hx:Φ x=fun w v=>ai w v t 2) (ht:z=t) (h1:-9223372036854775808<=z:=by decide) (h2:z<=9223372036854775807:=by decide):aj Φ prog ⟨34,[.lit (.ci .i64 z)],[⟨dS,[(0,0,x)]⟩],false⟩:=
 fU fun _ w v h0=>by
  obtain rfl:v = .int .i64 z:=h0
  exact (vJ z h1 h2 ht).mono fun _ _ h=>ke hx h
theorem oB {q j:Nat} (k:Nat) (hp:∀w v,Φ p w v->ai w v z i) (hq:∀w v,Φ q w v->ai w v y j) (hx:Φ x=fun w v=>ai w v t k) (ht:(Int.gcd z y:Int)=t) (l0:i<=k:=by omega) (l1:j<=k:=by omega) (hk:k+k<=1000000:=by omega):aj Φ prog ⟨107,[.fact p,.fact q],[⟨dS,[(0,0,x)]⟩],false⟩:=
 fw fun _ _ _ _ h0 h1=>(WE k (hp _ _ (get h0)) (hq _ _ (get h1)) l0 l1 hk ht).mono fun _ _ h=>ke hx h
end
end Go.Proofs.YtbjfgffibepmkaaGreat.Sym
