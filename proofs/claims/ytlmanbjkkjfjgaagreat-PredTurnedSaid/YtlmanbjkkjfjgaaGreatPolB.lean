/- Contracts as calls of th -/
import Derived.Test.YtlmanbjkkjfjgaaGreatSym
import Derived.Test.YtlmanbjkkjfjgaaGreatRats
import Derived.Maps.AppendAt
import Derived.Laws.OwnMore
import Derived.Laws.Slices
import Derived.Laws.Small
namespace Go.Proofs.YtlmanbjkkjfjgaaGreat.Sym
open Go.Proofs.Tryz
open Go.RowKit
variable {a:Arg}{b b' r bJ:Bool}{p' s:Option Addr}{f:FuncId}{outs:List Out}{X:Nat->Prop}{w w':World}{c c' i j k n' p x:Nat}{v:Value}{F:World->Value->Prop}{sh:cC}{t y z:Int}{xs ys:List Nat}
def ph (L:List (World->Value->Prop)) (p:Nat):World->Value->Prop:=L.getD p (λ_ _=>True)
def iS:cC:=.agg [.b,.s]
def dS:cC:=.agg [.s,.b]
def qS:cC:=.agg [.b,.s,.b,.s]
def sS:cC:=.agg [.s,.b,.s,.b]
abbrev If (z:Nat->Int) (k i:Nat) (w:World) (v:Value):Prop:=aD w v (z i) k
abbrev Nf (z:Nat->Int) (k i:Nat) (w:World) (v:Value):Prop:=ak w v (z i) k
abbrev Df (z:Nat->Rat) (k i:Nat) (w:World) (v:Value):Prop:=ah w v (z i) k
abbrev Zf (z:Nat->Int) (k i:Nat) (w:World) (v:Value):Prop:=ah w v ((z i:Int):Rat) k
abbrev Iw (z:Int) (k:Nat) (w:World) (v:Value):Prop:=aD w v z k
abbrev Nw (z:Int) (k:Nat) (w:World) (v:Value):Prop:=ak w v z k
abbrev Dw (z:Rat) (k:Nat) (w:World) (v:Value):Prop:=ah w v z k
abbrev Jw (z:Int) (k:Nat) (w:World) (v:Value):Prop:=ai w v z k
abbrev Im (Φ:Nat->World->Value->Prop) (p:Nat) (F:World->Value->Prop):Prop:=∀w v,Φ p w v->F w v
abbrev Ai (z:Int):Atom:=.ci .i64 z
abbrev cB (f:FuncId) (a:List Arg) (o:List Out):Step:=.base ⟨f,a,o,false⟩
theorem poN {α:Type}{P:α->Prop}:∀q,q ∈ ([]:List α)->P q:=λq h=>by cases h
theorem poC {Ψ Φ:Nat->World->Value->Prop}{a b:Nat}{l:List (Nat×Nat)} (h:∀w v,Ψ a w v->Φ b w v) (hl:∀q,q ∈ l->∀w v,Ψ q.1 w v->Φ q.2 w v):∀q,q ∈ (a,b) :: l->∀w v,Ψ q.1 w v->Φ q.2 w v:=λq hq=>by
 rcases List.mem_cons.1 hq with rfl | hq
 ·exact h
 ·exact hl q hq
abbrev Ni (z:Int) (_:World) (v:Value):Prop:=v = .int .i64 z
abbrev Nz (z:Nat) (_:World) (v:Value):Prop:=v = .int .i64 (z:Int)
abbrev Nu (z:Int) (_:World) (v:Value):Prop:=v = .int .u64 z
section
variable {P:Program}{Φ:Nat->World->Value->Prop}
theorem all_cons {s:Site}{l:List Site} (h:aj Φ P s) (hl:∀t,t ∈ l->aj Φ P t):∀t,t ∈ s :: l->aj Φ P t:=λt ht=>by
 rcases List.mem_cons.1 ht with rfl | ht
 ·exact h
 ·exact hl t ht
def post (Φ:Nat->World->Value->Prop) (X:Nat->Prop) (outs:List Out) (bJ:Bool) (w:World) (e:Ending) (w':World):Prop:=
 w.grownBy w' none∧∃us:List Value,e = .returned (if bJ then .tuple us.toArray else us.headD undef)∧cG Φ X w' outs us
theorem gC  (h:∀X w v,a.ok Φ X w v->Calls P f #[v] w (post Φ X outs bJ w)):aj Φ P ⟨f,[a],outs,bJ⟩:=λX w vs _ ha=>by
 match vs,ha with
 | [v],ha=>exact h X w v ha.1
theorem fe {b:Arg} (h:∀X w v u,a.ok Φ X w v->b.ok Φ X w u->Calls P f #[v,u] w (post Φ X outs bJ w)):aj Φ P ⟨f,[a,b],outs,bJ⟩:=λX w vs _ ha=>by
 match vs,ha with
 | [v,u],ha=>exact h X w v u ha.1 ha.2.1
theorem get  (h:(Arg.fact p).ok Φ X w v):Φ p w v:=h w (Off.refl _ _)
theorem o1  (hm:∀w w1 v,Kp w w1->F w v->F w1 v) (hp:Φ p=F) (hs:sh.is v) (h:F w v) :
  sh.is v∧∀q,q ∈ [(0,0,p)]->∀w1,Off X w w1->Φ q.2.2 w1 (bS q.1 q.2.1 v):=⟨hs,λq hq w1 hw=>by
 simp only [List.mem_singleton] at hq;subst hq;show Φ p w1 v;rw [hp];exact hm w w1 v hw.1 h⟩
theorem o0  (hs:sh.is v):sh.is v∧∀q,q ∈ ([]:List (Nat×Nat×Nat))->∀w1,Off X w w1->Φ q.2.2 w1 (bS q.1 q.2.1 v):=⟨hs,λq hq=>by cases hq⟩
theorem ro {p:Option Addr}{n:Nat}:iS.is (.agg #[.bool b,.slice p n c]):=⟨[.bool b,.slice p n c],rfl,⟨_,rfl⟩,⟨_,_,_,rfl⟩,trivial⟩
theorem LT {p:Option Addr}{n:Nat}:dS.is (.agg #[.slice p n c,.bool b]):=⟨[.slice p n c,.bool b],rfl,⟨_,_,_,rfl⟩,⟨_,rfl⟩,trivial⟩
theorem vn {p:Option Addr}{n:Nat}:qS.is (.agg #[.bool b,.slice p n c,.bool b',.slice p' n' c']):=⟨[.bool b,.slice p n c,.bool b',.slice p' n' c'],rfl,⟨_,rfl⟩,⟨_,_,_,rfl⟩,⟨_,rfl⟩,⟨_,_,_,rfl⟩,trivial⟩
theorem aiq {p:Option Addr}{n:Nat}:sS.is (.agg #[.slice p n c,.bool b,.slice p' n' c',.bool b']):=⟨[.slice p n c,.bool b,.slice p' n' c',.bool b'],rfl,⟨_,_,_,rfl⟩,⟨_,rfl⟩,⟨_,_,_,rfl⟩,⟨_,rfl⟩,trivial⟩
def QV (w:World) (v:Value) (z y:Int) (k:Nat):Prop:=∃b p n c b' p' n' c',v = .agg #[.bool b,.slice p n c,.bool b',.slice p' n' c']∧aD w (.agg #[.bool b,.slice p n c]) z k∧aD w (.agg #[.bool b',.slice p' n' c']) y k
theorem QV.kp  (h:QV w v z y k) (g:Kp w w'):QV w' v z y k:=by obtain ⟨b,p,n,c,b',p',n',c',h1,h2,h3⟩:=h;exact ⟨b,p,n,c,b',p',n',c',h1,h2.kp g,h3.kp g⟩
theorem QV.q  (h:QV w v z y k):fT w v (aH z y) k:=by obtain ⟨b,p,n,c,b',p',n',c',h1,h2,h3⟩:=h;exact ⟨b,p,n,c,b',p',n',c',z,y,h1,h2,h3,rfl⟩
def aJ (w:World) (v:Value) (b:Bool) (xs:List Nat):Prop:=∃s,v = .agg #[.bool b,s]∧Sl w .u32 s xs∧All 4294967296 xs
def gE (w:World) (v:Value) (b:Bool) (xs:List Nat) (b':Bool) (ys:List Nat):Prop:=∃s s',v = .agg #[.bool b,s,.bool b',s']∧Sl w .u32 s xs∧All 4294967296 xs∧Sl w .u32 s' ys∧All 4294967296 ys
theorem aJ.kp  (h:aJ w v b xs) (g:Kp w w'):aJ w' v b xs:=by obtain ⟨s,h1,h2,h3⟩:=h;exact ⟨s,h1,h2.kp g,h3⟩
theorem gE.kp  (h:gE w v b xs b' ys) (g:Kp w w'):gE w' v b xs b' ys:=by obtain ⟨s,s',h1,h2,h3,h4,h5⟩:=h;exact ⟨s,s',h1,h2.kp g,h3,h4.kp g,h5⟩
theorem aJ.is  (h:aJ w v b xs):iS.is v:=by obtain ⟨s,rfl,h2,_⟩:=h;obtain ⟨p,c,rfl,_⟩:=h2;exact ro
theorem gE.is  (h:gE w v b xs b' ys):qS.is v:=by obtain ⟨s,s',rfl,h2,_,h4,_⟩:=h;obtain ⟨p,c,rfl,_⟩:=h2;obtain ⟨p',c',rfl,_⟩:=h4;exact vn
theorem QV.fst  (h:QV w v z y k):aD w (bS 0 2 v) z k:=by obtain ⟨_,_,_,_,_,_,_,_,rfl,h1,_⟩:=h;exact h1
theorem QV.snd  (h:QV w v z y k):aD w (bS 2 2 v) y k:=by obtain ⟨_,_,_,_,_,_,_,_,rfl,_,h2⟩:=h;exact h2
theorem ah.fst {q:Rat} (h:ah w v q k):ai w (bS 0 2 v) q.num k:=by obtain ⟨_,_,_,_,_,_,_,_,rfl,h1,_⟩:=h;exact h1
theorem ah.snd {q:Rat} (h:ah w v q k):ai w (bS 2 2 v) (q.den:Int) k:=by obtain ⟨_,_,_,_,_,_,_,_,rfl,_,h2⟩:=h;exact h2
theorem fT.qv {q:Rat} (h:fT w v q k):∃z y,QV w v z y k∧aH z y=q:=by obtain ⟨b,p,n,c,b',p',n',c',z,y,h1,h2,h3,h4⟩:=h;exact ⟨z,y,⟨b,p,n,c,b',p',n',c',h1,h2,h3⟩,h4⟩
section
variable {q:Rat}
theorem iI:∀w v,aD w v z k->aD w v z k:=λ_ _ h=>h
theorem nI:∀w v,ak w v z k->aD w v z k:=λ_ _ h=>h.i
theorem nN:∀w v,ak w v z k->ak w v z k:=λ_ _ h=>h
theorem dD:∀w v,ai w v z k->ai w v z k:=λ_ _ h=>h
theorem tS:∀w v,ah w v q k->ah w v q k:=λ_ _ h=>h
end
section
variable {e:Ending}{t:Rat}{p1 p2:Nat}
theorem LU (hp:Φ p=λw v=>ak w v z k){n:Nat} (hv:v = .agg #[.bool b,.slice s n c]) (h:ak w v z k):iS.is v∧∀q,q ∈ [(0,0,p)]->∀w1,Off X w w1->Φ q.2.2 w1 (bS q.1 q.2.1 v):=
 o1 (F:=λw v=>ak w v z k) (λ_ _ _ g h=>ak.kp h g) hp (hv▸ro) h
theorem air (hp:Φ p=λw v=>ai w v z k){n:Nat} (hv:v = .agg #[.slice s n c,.bool b]) (h:ai w v z k):dS.is v∧∀q,q ∈ [(0,0,p)]->∀w1,Off X w w1->Φ q.2.2 w1 (bS q.1 q.2.1 v):=
 o1 (F:=λw v=>ai w v z k) (λ_ _ _ g h=>ai.kp h g) hp (hv▸LT) h
theorem eY.is {q:Rat} (h:eY w v q k):qS.is v:=by obtain ⟨_,_,_,_,_,_,_,_,rfl,_⟩:=h;exact vn
theorem QV.is  (h:QV w v z y k):qS.is v:=by obtain ⟨_,_,_,_,_,_,_,_,rfl,_⟩:=h;exact vn
theorem fT.is {q:Rat} (h:fT w v q k):qS.is v:=by obtain ⟨_,_,_,_,_,_,_,_,_,_,rfl,_⟩:=h;exact vn
theorem ah.is {q:Rat} (h:ah w v q k):sS.is v:=by obtain ⟨_,_,_,_,_,_,_,_,rfl,_⟩:=h;exact aiq
theorem aD.is  (h:aD w v z k):iS.is v:=by obtain ⟨b,p,n,c,rfl,_⟩:=h.open;exact ro
theorem ak.is  (h:ak w v z k):iS.is v:=aD.is h.i
theorem ai.is  (h:ai w v z k):dS.is v:=by obtain ⟨p,c,rfl,_⟩:=h;exact LT
theorem ah.n {q:Rat} (h:ah w v q k):∃p n c b p' n' c' b',v = .agg #[.slice p n c,.bool b,.slice p' n' c',.bool b']∧ai w (.agg #[.slice p n c,.bool b]) q.num k∧ai w (.agg #[.slice p' n' c',.bool b']) (q.den:Int) k:=h
theorem ais (hp:Φ p=λw v=>ah w v t k) (h1:Φ p1=λw v=>ai w v t.num k) (h2:Φ p2=λw v=>ai w v (t.den:Int) k) (h:ah w v t k) :
  sS.is v∧∀q,q ∈ [(0,0,p),(0,2,p1),(2,2,p2)]->∀w1,Off X w w1->Φ q.2.2 w1 (bS q.1 q.2.1 v):=by
 refine ⟨ah.is h,λq hq w1 hw=>?_⟩;have h':=h.kp hw.1;obtain ⟨b,s,n,c,b',s',n',c',rfl,a1,a2⟩:=id h';simp only [List.mem_cons,List.not_mem_nil,or_false] at hq;rcases hq with rfl | rfl | rfl
 ·show Φ p w1 _;rw [hp];exact h'
 ·show Φ p1 w1 _;rw [h1];exact a1
 ·show Φ p2 w1 _;rw [h2];exact a2
theorem kP (hp:Φ p=λw v=>ak w v z k) (h:mq w z k e w'):post Φ X [⟨iS,[(0,0,p)]⟩] false w e w':=by obtain ⟨b,s,n,c,rfl,h1,h2⟩:=h;exact ⟨h2,[_],rfl,LU hp rfl h1,trivial⟩
theorem ait (hp:Φ p=λw v=>ak w v z k) (h:Kd w z k e w'):post Φ X [⟨iS,[(0,0,p)]⟩,⟨.one (.lit (.ci .i64 0)),[]⟩] true w e w':=by obtain ⟨b,s,n,c,rfl,h1,h2⟩:=h;exact ⟨h2,[_,_],rfl,LU hp rfl h1,o0 ⟨rfl,λ_ h=>by cases h⟩,trivial⟩
theorem mt (hp:Φ p=λw v=>ai w v z k) (h:ia w z k e w'):post Φ X [⟨dS,[(0,0,p)]⟩] false w e w':=by obtain ⟨s,n,c,b,rfl,h1,h2⟩:=h;exact ⟨h2,[_],rfl,air hp rfl h1,trivial⟩
theorem lE (hp:Φ p=λw v=>ah w v t k) (q1:Φ p1=λw v=>ai w v t.num k) (q2:Φ p2=λw v=>ai w v (t.den:Int) k) (h:jw w t k e w'):post Φ X [⟨sS,[(0,0,p),(0,2,p1),(2,2,p2)]⟩] false w e w':=by obtain ⟨b,s,n,c,b',s',n',c',rfl,h1,h2⟩:=h;exact ⟨h2,[_],rfl,ais hp q1 q2 h1,trivial⟩
theorem LV {a:Atom} (h:e = .returned (a.ev da)∧w.grownBy w' none) (hn:∀l,a.ev da≠.agg l):post Φ X [⟨.one (.lit a),[]⟩] false w e w':=by obtain ⟨rfl,h2⟩:=h;exact ⟨h2,[_],rfl,o0 ⟨rfl,hn⟩,trivial⟩
theorem zE  (h:e = .returned (.bool b)∧w.grownBy w' none):post Φ X [⟨.one (.lit (.cb b)),[]⟩] false w e w':=LV h (λ_ h=>by cases h)
theorem HK {x:Int} (h:e = .returned (.int .i64 x)∧w.grownBy w' none):post Φ X [⟨.one (.lit (.ci .i64 x)),[]⟩] false w e w':=LV h (λ_ h=>by cases h)
end
inductive Pm where
 | fact (p:Nat) (sh:cC) | lit (a:Atom) | sub (p:Nat) (sh:cC) (fs:List (Nat×Nat×Nat)) | parts (sh:cC) (fs:List (Nat×Nat×Nat))
def Pm.arg:Pm->Arg
 | .fact p _=>.fact p
 | .sub p _ _=>.fact p
 | .lit a=>.lit a
 | .parts sh fs=>.parts sh fs
def Pm.out:Pm->Out
 | .fact p sh=>⟨sh,[(0,0,p)]⟩
 | .sub p sh fs=>⟨sh,(0,0,p) :: fs⟩
 | .lit a=>⟨.one (.lit a),[]⟩
 | .parts sh fs=>⟨sh,fs⟩
def rX (Φ:Nat->World->Value->Prop) (p:Nat):List (Nat×Nat×Nat)->Prop
 | []=>True
 | q :: l=>(∀w v,Φ p w v->Φ q.2.2 w (bS q.1 q.2.1 v))∧rX Φ p l
theorem rX.at {p:Nat}:∀{l:List (Nat×Nat×Nat)},rX Φ p l->∀q,q ∈ l->∀w v,Φ p w v->Φ q.2.2 w (bS q.1 q.2.1 v)
 | _ :: l,h,q,hq=>by
  rcases List.mem_cons.1 hq with rfl | hq
  ·exact h.1
  ·exact rX.at h.2 q hq
def Pm.fine (Φ:Nat->World->Value->Prop):Pm->Prop
 | .fact p sh=>∀w v,Φ p w v->sh.is v
 | .sub p sh fs=>(∀w v,Φ p w v->sh.is v)∧rX Φ p fs
 | .lit a=>∀l,a.ev da≠.agg l
 | .parts _ _=>True
def LW (Φ:Nat->World->Value->Prop):List Pm->Prop
 | []=>True
 | x :: xs=>x.fine Φ∧LW Φ xs
theorem aP:∀(l:List Pm) (_:LW Φ l) (X:Nat->Prop) (w:World) (vs:List Value),(∀k,X k->k<w.heap.size)->cX Φ X w (l.map Pm.arg) vs->cG Φ X w (l.map Pm.out) vs
 | [],_,_,_,[],_,_=>trivial
 | x :: xs,hf,X,w,v :: vs,hX,ha=>by
  refine ⟨?_,aP xs hf.2 X w vs hX ha.2⟩;cases x with
  | fact p sh=>
   refine ⟨hf.1 w v (get ha.1),λq hq w1 hw=>?_⟩;have hq':q=(0,0,p):=by simpa [Pm.out] using hq
   subst hq';exact ha.1 w1 hw
  | sub p sh fs=>
   refine ⟨hf.1.1 w v (get ha.1),λq hq w1 hw=>?_⟩;rcases List.mem_cons.1 hq with rfl | hq
   ·exact ha.1 w1 hw
   ·exact hf.1.2.at q hq w1 v (ha.1 w1 hw)
  | lit a=>
   have h0:v=a.ev da:=ha.1;subst h0;exact o0 ⟨rfl,hf.1⟩
  | parts sh fs=>exact ha.1
 | [],_,_,_,_ :: _,_,h=>h.elim
 | _ :: _,_,_,_,[],_,h=>h.elim
theorem asks {LX as2:List Arg} (h:aj Φ P ⟨f,LX,outs,bJ⟩) (hw:∀(X:Nat->Prop) (w:World) (vs:List Value),cX Φ X w as2 vs->cX Φ X w LX vs):aj Φ P ⟨f,as2,outs,bJ⟩:=
 λX w vs hX ha=>h X w vs hX (hw X w vs ha)
theorem QV.join {i j:Nat} (hs:qS.is v) (h1:aD w (bS 0 2 v) z i) (h2:aD w (bS 2 2 v) y j) (hi:i<=k) (hj:j<=k):QV w v z y k:=by
 obtain ⟨vs,rfl,h⟩:=hs
 match vs,h with
 | [v0,v1,v2,v3],h=>
  obtain ⟨⟨b,rfl⟩,⟨p,n,c,rfl⟩,⟨b',rfl⟩,⟨p',n',c',rfl⟩,_⟩:=h;exact ⟨b,p,n,c,b',p',n',c',rfl,h1.more hi,h2.more hj⟩
section
variable {p1 p2:Nat}
end
section
variable {ar:List Arg}{vs:List Value}{t:Rat}
theorem KH {fs:List (Nat×Nat×Nat)} (h:aj Φ P ⟨f,ar,[⟨sh,fs⟩],false⟩) (ha:cX Φ (λ_=>False) w ar vs){R:Ending->World->Prop}
  (hR:∀u w',w.grownBy w' none->sh.is u->(∀q,q ∈ fs->Φ q.2.2 w' (bS q.1 q.2.1 u))->R (.returned u) w'):Calls P f vs.toArray w R:=by
 refine (h (λ_=>False) w vs (λ_ h=>h.elim) ha).mono λe w' ⟨hg,us,he,ho⟩=>?_
 match us,ho with
 | [u],ho=>subst he;exact hR u w' hg ho.1.1 (λq hq=>ho.1.2 q hq w' (Off.refl _ _))
theorem iZ (h:aj Φ P ⟨f,ar,[⟨sS,[(0,0,p)]⟩],false⟩) (hp:Φ p=λw v=>ah w v t k) (ha:cX Φ (λ_=>False) w ar vs):Calls P f vs.toArray w (jw w t k):=
 KH h ha λu w' hg _ hf=>by
  have h1:ah w' u t k:=by have:=hf (0,0,p) (by simp);rw [hp] at this;exact this
  obtain ⟨s,n,c,b,s',n',c',b',rfl,_⟩:=id h1;exact ⟨s,n,c,b,s',n',c',b',rfl,h1,hg⟩
end
theorem jx {o o':Out} (h:∀X w v,(o.sh.is v∧∀q,q ∈ o.fs->∀w1,Off X w w1->Φ q.2.2 w1 (bS q.1 q.2.1 v))->o'.sh.is v∧∀q,q ∈ o'.fs->∀w1,Off X w w1->Φ q.2.2 w1 (bS q.1 q.2.1 v)):∀(X:Nat->Prop) (w:World) (us:List Value),cG Φ X w [o] us->cG Φ X w [o'] us:=λX w us hu=>by
 match us,hu with
 | [u],hu=>exact ⟨h X w u hu.1,trivial⟩
theorem weak  (h:∀w v,Φ p w v->Φ x w v) (X:Nat->Prop) (w:World) (v:Value) (hv:sh.is v∧∀q,q ∈ [(0,0,p)]->∀w1,Off X w w1->Φ q.2.2 w1 (bS q.1 q.2.1 v)):sh.is v∧∀q,q ∈ [(0,0,x)]->∀w1,Off X w w1->Φ q.2.2 w1 (bS q.1 q.2.1 v):=
 ⟨hv.1,λq hq w1 hw=>by
  simp only [List.mem_singleton] at hq;subst hq;exact h w1 _ (hv.2 (0,0,p) (by simp) w1 hw)⟩
theorem halves {p1 p2:Nat} (h:∀w v,sh.is v->Φ p1 w (bS 0 2 v)->Φ p2 w (bS 2 2 v)->Φ x w v) (X:Nat->Prop) (w:World) (v:Value) (hv:sh.is v∧∀q,q ∈ [(0,2,p1),(2,2,p2)]->∀w1,Off X w w1->Φ q.2.2 w1 (bS q.1 q.2.1 v)):sh.is v∧∀q,q ∈ [(0,0,x)]->∀w1,Off X w w1->Φ q.2.2 w1 (bS q.1 q.2.1 v):=
 ⟨hv.1,λq hq w1 hw=>by
  simp only [List.mem_singleton] at hq;subst hq;exact h w1 _ hv.1 (hv.2 (0,2,p1) (by simp) w1 hw) (hv.2 (2,2,p2) (by simp) w1 hw)⟩
theorem eY.join {t:Rat} (hs:qS.is v) (h1:ak w (bS 0 2 v) t.num k) (h2:ak w (bS 2 2 v) (t.den:Int) k):eY w v t k:=by
 obtain ⟨vs,rfl,h⟩:=hs
 match vs,h with
 | [v0,v1,v2,v3],h=>
  obtain ⟨⟨b,rfl⟩,⟨p,n,c,rfl⟩,⟨b',rfl⟩,⟨p',n',c',rfl⟩,_⟩:=h;exact ⟨b,p,n,c,b',p',n',c',rfl,h1,h2⟩
theorem ah.join {t:Rat} (hs:sS.is v) (h1:ai w (bS 0 2 v) t.num k) (h2:ai w (bS 2 2 v) (t.den:Int) k):ah w v t k:=by
 obtain ⟨vs,rfl,h⟩:=hs
 match vs,h with
 | [v0,v1,v2,v3],h=>
  obtain ⟨⟨p,n,c,rfl⟩,⟨b,rfl⟩,⟨p',n',c',rfl⟩,⟨b',rfl⟩,_⟩:=h;exact ⟨p,n,c,b,p',n',c',b',rfl,h1,h2⟩
theorem FC {ar:List Arg} (h:aj Φ P ⟨f,ar,[⟨.one (.lit (.cb true)),[]⟩],false⟩){vs:List Value} (ha:cX Φ (λ_=>False) w ar vs):Calls P f vs.toArray w (λe w'=>e = .returned (.bool true)∧w.grownBy w' none):=by
 refine (h (λ_=>False) w vs (λ_ h=>h.elim) ha).mono λe w' ⟨hg,us,he,ho⟩=>?_
 match us,ho with
 | [u],ho=>
  obtain ⟨⟨⟨h1,_⟩,_⟩,_⟩:=ho;have h1':u = .bool true:=h1;subst h1';exact ⟨he,hg⟩
theorem jy  (hp:Φ p=F) (hm:∀w w1 v,Kp w w1->F w v->F w1 v) (h:F w v):(Arg.fact p).ok Φ (λ_=>False) w v:=λw1 hw=>by rw [hp];exact hm w w1 v hw.1 h
end
section
variable {Φ:PH}
theorem ud {q:Nat} (hp:Im Φ p (Iw z i)) (hq:Im Φ q (Iw y j)) (hx:Φ x=Nw t (i+j)) (ht:z*y=t) (hi:i+j<=1000000:=by omega):aj Φ prog ⟨117,[.fact p,.fact q],[⟨iS,[(0,0,x)]⟩],false⟩:=
 fe λ_ _ _ _ h0 h1=>(ae5 (hp _ _ (get h0)) (hq _ _ (get h1)) hi ht).mono λ_ _ h=>kP hx h
theorem GL {q:Nat} (hp:Im Φ p (Iw z i)) (hq:Im Φ q (Iw y j)) (hx:Φ x=Nw t (i+j+1)) (ht:z+y=t) (hi:i+j<=1000000:=by omega):aj Φ prog ⟨121,[.fact p,.fact q],[⟨iS,[(0,0,x)]⟩],false⟩:=
 fe λ_ _ _ _ h0 h1=>(ae6 (hp _ _ (get h0)) (hq _ _ (get h1)) hi ht).mono λ_ _ h=>kP hx h
theorem acc  (hp:Im Φ p (Iw z i)) (hx:Φ x=Nw t i) (ht : -z=t) (hi:i<=1000000:=by omega):aj Φ prog ⟨105,[.fact p],[⟨iS,[(0,0,x)]⟩],false⟩:=
 gC λ_ _ _ h0=>(ae7 (hp _ _ (get h0)) hi ht).mono λ_ _ h=>kP hx h
theorem oB  (hp:Im Φ p (Iw z i)) (hx:Φ x=Nw t i) (ht:z=t) (hi:i<=1000000:=by omega):aj Φ prog ⟨63,[.fact p],[⟨iS,[(0,0,x)]⟩],false⟩:=
 gC λ_ _ _ h0=>(ht▸ae8 (hp _ _ (get h0)) hi).mono λ_ _ h=>kP hx h
theorem wd {q:Nat} (hp:Im Φ p (Iw z i)) (hq:Im Φ q (Iw y j)) (hx:Φ x=Nw t i) (h0':y≠0) (h1':y∣z) (ht:z / y=t) (hi:i+j<=900000:=by omega):aj Φ prog ⟨106,[.fact p,.fact q],[⟨iS,[(0,0,x)]⟩,oL (.ci .i64 0)],true⟩:=
 fe λ_ _ _ _ h0 h1=>(ae9 (hp _ _ (get h0)) (hq _ _ (get h1)) hi h0' h1' ht).mono λ_ _ h=>ait hx h
theorem Zu  (hp:Im Φ p (Ni z)) (hx:Φ x=Nw t 2) (h1 : -9223372036854775808<=z) (h2:z<=9223372036854775807) (ht:z=t):aj Φ prog ⟨68,[.fact p],[⟨iS,[(0,0,x)]⟩],false⟩:=
 gC λ_ w v h0=>by obtain rfl:=hp _ _ (get h0);exact (Kc z h1 h2 ht).mono λ_ _ h=>kP hx h
theorem yy {e:Ending} (hx:Φ x=Ni t) (h:e = .returned (.int .i64 t)∧w.grownBy w' none):post Φ X [oN x] false w e w':=by obtain ⟨rfl,h2⟩:=h;exact ⟨h2,[_],rfl,o1 (F:=Ni t) (λ_ _ _ _ h=>h) hx ⟨⟨_,rfl⟩,λ_ h=>by cases h⟩ rfl,trivial⟩
theorem na {q:Nat} (hp:Im Φ p (Iw z i)) (hq:Im Φ q (Iw y j)) (hx:Φ x=Ni t) (hr:cK z y=t) (hi:i+j<=1000000:=by omega):aj Φ prog ⟨113,[.fact p,.fact q],[oN x],false⟩:=
 fe λ_ _ _ _ h0 h1=>(Ua t (hp _ _ (get h0)) (hq _ _ (get h1)) hi hr).mono λ_ _ h=>yy hx h
theorem uo  (hp:Im Φ p (Nw z i)) (hr:decide (z=0)=r):aj Φ prog ⟨64,[.fact p],[oL (.cb r)],false⟩:=
 gC λ_ _ _ h0=>(WQ r (hp _ _ (get h0)).1 hr).mono λ_ _ h=>zE h
theorem wA  (hx:Φ x=Nw t 2) (ht:z=t) (h1:-9223372036854775808<=z:=by decide) (h2:z<=9223372036854775807:=by decide):aj Φ prog ⟨68,[.lit (.ci .i64 z)],[⟨iS,[(0,0,x)]⟩],false⟩:=
 gC λ_ w v h0=>by obtain rfl:v = .int .i64 z:=h0;exact (Kc z h1 h2 ht).mono λ_ _ h=>kP hx h
theorem dE {q:Nat} (hp:Im Φ p (Jw z i)) (hq:Im Φ q (Jw y j)) (hx:Φ x=Jw t (i+j)) (ht:z*y=t) (hi:i+j<=1000000:=by omega):aj Φ prog ⟨26,[.fact p,.fact q],[⟨dS,[(0,0,x)]⟩],false⟩:=
 fe λ_ _ _ _ h0 h1=>(afa (hp _ _ (get h0)) (hq _ _ (get h1)) hi ht).mono λ_ _ h=>mt hx h
theorem yC {q:Nat} (hp:Im Φ p (Jw z i)) (hq:Im Φ q (Jw y j)) (hx:Φ x=Jw t (i+j+1)) (ht:z+y=t) (hi:i+j<=1000000:=by omega):aj Φ prog ⟨66,[.fact p,.fact q],[⟨dS,[(0,0,x)]⟩],false⟩:=
 fe λ_ _ _ _ h0 h1=>(afc (hp _ _ (get h0)) (hq _ _ (get h1)) hi ht).mono λ_ _ h=>mt hx h
theorem ry  (hp:Im Φ p (Jw z i)) (hx:Φ x=Jw t i) (ht : -z=t):aj Φ prog ⟨83,[.fact p],[⟨dS,[(0,0,x)]⟩],false⟩:=
 gC λ_ _ _ h0=>(Kf (hp _ _ (get h0)) ht).mono λ_ _ h=>mt hx h
theorem jp  (hp:Im Φ p (Iw z i)) (hx:Φ x=Jw t i) (ht:z=t) (hi:i<=1000000:=by omega):aj Φ prog ⟨27,[.fact p],[⟨dS,[(0,0,x)]⟩],false⟩:=
 gC λ_ _ _ h0=>(ht▸afe (hp _ _ (get h0)) hi).mono λ_ _ h=>mt hx h
theorem tTo  (hp:Im Φ p (Jw z i)) (hx:Φ x=Nw t i) (ht:z=t) (hi:i<=1000000:=by omega):aj Φ prog ⟨25,[.fact p],[⟨iS,[(0,0,x)]⟩],false⟩:=
 gC λ_ _ _ h0=>(ht▸afg (hp _ _ (get h0)) hi).mono λ_ _ h=>kP hx h
theorem gh  (hp:Im Φ p (Jw z i)) (hr:decide (z=0)=r):aj Φ prog ⟨28,[.fact p],[oL (.cb r)],false⟩:=
 gC λ_ _ _ h0=>(afj (hp _ _ (get h0)) hr).mono λ_ _ h=>zE h
theorem fP  (hx:Φ x=Jw t 2) (ht:z=t) (h1:-9223372036854775808<=z:=by decide) (h2:z<=9223372036854775807:=by decide):aj Φ prog ⟨24,[.lit (.ci .i64 z)],[⟨dS,[(0,0,x)]⟩],false⟩:=
 gC λ_ w v h0=>by obtain rfl:v = .int .i64 z:=h0;exact (zt z h1 h2 ht).mono λ_ _ h=>mt hx h
theorem ik {q:Nat} (k:Nat) (hp:Im Φ p (Jw z i)) (hq:Im Φ q (Jw y j)) (hx:Φ x=Jw t k) (ht:(Int.gcd z y:Int)=t) (l0:i<=k:=by omega) (l1:j<=k:=by omega) (hk:k+k<=1000000:=by omega):aj Φ prog ⟨84,[.fact p,.fact q],[⟨dS,[(0,0,x)]⟩],false⟩:=
 fe λ_ _ _ _ h0 h1=>(afi k (hp _ _ (get h0)) (hq _ _ (get h1)) l0 l1 hk ht).mono λ_ _ h=>mt hx h
end
end Go.Proofs.YtlmanbjkkjfjgaaGreat.Sym
namespace Go.Proofs.YtlmanbjkkjfjgaaGreat
open Go.Proofs.Tryz
open Go.RowKit
def dd (x:Value):Prop:=∀k n,k≠.u64->x≠.int k n
def er (sz:Nat) (e:TypeId) (w:World) (v:Value) (n:Nat) (xs:List Value):Prop:=
 w.ownsRow 0 e sz v n xs∧∀g cur e' p,v.ownBlock=some g->w.heap[g]?=some (.cells cur e' p)->∀x,x ∈ cur.toList->dd x
theorem er.nil (sz:Nat) (e:TypeId) (w:World):er sz e w (.slice none 0 0) 0 []:=⟨⟨by simp,.inl ⟨rfl,rfl⟩⟩,λ_ _ _ _ h=>by simp [Value.ownBlock] at h⟩
section
variable {sz n:Nat}{e:TypeId}{w w':World}{v:Value}{xs:List Value}
theorem er.lt (h:er sz e w v n xs) (g:Nat) (hg:v.ownBlock=some g):g<w.heap.size:=by
 rcases h.1.2 with ⟨rfl,-⟩ | ⟨g',cap,cur,rfl,hb,hh,-⟩
 ·simp [Value.ownBlock] at hg
 ·simp only [Value.ownBlock,Option.some.injEq] at hg;subst hg;exact (Array.getElem?_eq_some_iff.1 hh).1
theorem er.keep (h:er sz e w v n xs) (hb:∀g,v.ownBlock=some g->w'.heap[g]?=w.heap[g]?):er sz e w' v n xs:=by
 refine ⟨⟨h.1.1,?_⟩,λg' cur e p hg' hh=>h.2 g' cur e p hg' (by rw [<- hb g' hg'];exact hh)⟩;rcases h.1.2 with h2 | ⟨g',cap,cur,rfl,hB,hh,h3⟩
 ·exact .inl h2
 ·exact .inr ⟨g',cap,cur,rfl,hB,by rw [hb g' rfl];exact hh,h3⟩
theorem er.kp (h:er sz e w v n xs) (g:w.grownBy w' v.ownBlock):Kp w w':=by
 refine ⟨g.size,λa k m hu hc=>?_⟩;have hl:=World.block_lt_of_cell? _ _ hc;by_cases hv:v.ownBlock=some a.block
 ·rcases h.1.2 with ⟨rfl,-⟩ | ⟨g',cap,cur,rfl,hB,hh,-⟩
  ·simp [Value.ownBlock] at hv
  ·simp only [Value.ownBlock,Option.some.injEq] at hv;obtain ⟨b,off,spot⟩:=a;have hs:spot=none:=World.cell?_spot hc;subst hs;simp only at hv;subst hv;simp [World.cell?,hh] at hc;have:=h.2 g' cur _ _ rfl hh (.int k m) (by
    rw [<- Array.getElem?_toList] at hc;exact List.mem_of_getElem? hc) k m hu
   exact absurd rfl this
 ·rw [World.cell?_of_block (g.block a.block hl (λe=>hv e.symm))];exact hc
theorem lm {z:Array Value} (hz:∀x,x ∈ z.toList->dd x) (h0:0<z.size) (n:Nat):∀x,x ∈ (Builtin.zeroCells z n).toList->dd x:=by intro x hx;simp only [Builtin.zeroCells,Array.toList_map,List.mem_map] at hx;obtain ⟨i,-,rfl⟩:=hx;have hlt:=Nat.mod_lt i h0;rw [getElem!_pos z _ hlt];exact hz _ (by simp)
set_option maxRecDepth 100000 in
theorem AP (t ty:TypeId){i0:TypeInfo}{z:Value}{bytes:Nat} (hU:prog.underlying t=some (.slice e)) (hi:prog.info? e=some i0) (hz0:i0.zero=some z) (hz1:i0.size=sz) (hz2:i0.bytes=bytes) (hzs:z.cells.size=sz) (hsz:0<sz) (hbb:bytes<=1000) (hzn:∀x,x ∈ z.cells.toList->dd x)
  (h:er sz e w v n xs) (a:Addr) (c:Nat) (news:List Value) (hl:news.length=sz) (hnews:∀(j:Nat) u,news[j]?=some u->w.cell? (a.add j)=some u) (hone:∀u,u ∈ news->u.oneCell'=true) (hnn:∀u,u ∈ news->dd u) (hn:n<=1000000) :
  ∃v' w',(Builtin.append_ #[t,t] ty #[v,.slice (some a) 1 c]).run prog w = .ok v' w'∧er sz e w' v' (n+1) (xs ++ news)∧w.grownBy w' v.ownBlock∧(v'.ownBlock=v.ownBlock∨v'.ownBlock=some w.heap.size):=by
 have hl1:news.length=1*sz:=by rw [hl,Nat.one_mul]
 have hby:(n+1)*bytes<=140737488355328:=Nat.le_trans (Nat.mul_le_mul (by omega:n+1<=1000001) hbb) (by decide);obtain ⟨v',w',hr,ho,hg,-,hb⟩:=run_append_own_at (P:=prog) (w:=w) 0 t ty e i0 z sz bytes hU hi hz0 hz1 hz2 hzs hsz v n xs h.1 a 1 c news hl1 hnews hone (by simp only [maxLen];omega) hby (by omega);refine ⟨v',w',hr,⟨ho,?_⟩,hg,hb⟩;have hL:∀x,x ∈ xs->dd x:=λx hx=>by
  rcases h.1.2 with ⟨-,h2⟩ | ⟨g,cap,cur,hv,-,hh,-,-,-,h6⟩
  ·have:=h.1.1;rw [h2,Nat.zero_mul] at this;rw [List.eq_nil_of_length_eq_zero this] at hx;cases hx
  ·rw [<- h6] at hx;exact h.2 g cur _ _ (by rw [hv];rfl) hh x (List.mem_of_mem_take hx)
 subst hz1;rcases h.1.2 with ⟨rfl,h2⟩ | ⟨g,cap,cur,rfl,hb',hh,h3,h4,h5,h6⟩
 ·subst h2;have hr2:=run_append_nil (P:=prog) (w:=w) t ty e i0 z hU hi hz0 a 1 c news hl1 hnews (by omega) (by omega) (by rw [hz2];omega);rw [hr] at hr2;injection hr2 with e1 e2
  subst e1 e2;intro g cur e' q hgg gf x hx;simp only [Value.ownBlock,Option.some.injEq] at hgg;subst hgg;rw [show w.heap.size=w.drew.heap.size from rfl,heap_alloc_new] at gf;cases gf;simp only [Array.toList_append,List.mem_append] at hx;rcases hx with hx | hx
  ·exact hnn x (by simpa using hx)
  ·exact lm hzn (by omega) _ x hx
 ·by_cases hroom:n+1<=cap
  ·have hfit:n*i0.size+news.length<=cur.size:=by
    rw [h5,hl,<- Nat.succ_mul];exact Nat.mul_le_mul_right _ hroom
   have hr2:=run_append_room (P:=prog) (w:=w) t ty e i0 hU hi g n cap cur hh a 1 c news hl1 hnews hone hroom hfit;rw [hr] at hr2;injection hr2 with e1 e2
   subst e1 e2;intro g' cur' e' q hgg gf x hx;simp only [Value.ownBlock,Option.some.injEq] at hgg;subst hgg;rw [setRow_heap w g cur _ _ _ hh] at gf;cases gf;simp only [List.mem_append] at hx;rcases hx with (hx | hx) | hx
   ·exact h.2 g cur _ _ rfl hh x (List.mem_of_mem_take hx)
   ·exact hnn x hx
   ·exact h.2 g cur _ _ rfl hh x (List.mem_of_mem_drop hx)
  ·have holds:∀(j:Nat) u,xs[j]?=some u->w.cell? (Addr.add ⟨g,0,none⟩ j)=some u:=h.1.cells (g:=g) rfl;have hr2:=run_append_grow (P:=prog) (w:=w) t ty e i0 z hU hi hz0 ⟨g,0,none⟩ n cap xs h.1.1 holds a 1 c news hl1 hnews (by omega) (by omega) (growslice_fits (by omega) (by rw [hz2];exact hby));rw [hr] at hr2;injection hr2 with e1 e2
   subst e1 e2;intro g' cur' e' q hgg gf x hx;simp only [Value.ownBlock,Option.some.injEq] at hgg;subst hgg;rw [show w.heap.size=w.drew.heap.size from rfl,heap_alloc_new] at gf;cases gf;simp only [Array.toList_append,List.mem_append] at hx;rcases hx with (hx | hx) | hx
   ·exact hL x (by simpa using hx)
   ·exact hnn x (by simpa using hx)
   ·exact lm hzn (by omega) _ x hx
end
end Go.Proofs.YtlmanbjkkjfjgaaGreat
namespace Go.Proofs.YtlmanbjkkjfjgaaGreat.Sym
open Go.Proofs.Tryz
open Go.RowKit
variable {T U:TypeId}{u y:Value}
def aA (sz:Nat) (e:TypeId) (F:PH) (n:Nat) (w:World) (v:Value):Prop:=
 ∃rows:List (List Value),rows.length=n∧(∀r,r ∈ rows->r.length=sz)∧er sz e w v n rows.flatten∧∀i r,rows[i]?=some r->F i w (.agg r.toArray)
theorem zF {sz:Nat}:∀{rows:List (List Value)},(∀r,r ∈ rows->r.length=sz)->∀{i j:Nat}{r:List Value}{u:Value},rows[i]?=some r->r[j]?=some u->rows.flatten[i*sz+j]?=some u
 | [],_,i,j,r,u,h,_=>by simp at h
 | r0 :: rows,hl,0,j,r,u,h,hj=>by simp at h;subst h;have hlt:=(List.getElem?_eq_some_iff.1 hj).1;rw [List.flatten_cons,Nat.zero_mul,Nat.zero_add,List.getElem?_append_left hlt];exact hj
 | r0 :: rows,hl,i+1,j,r,u,h,hj=>by have h0:=hl r0 (List.mem_cons_self ..);rw [List.flatten_cons,List.getElem?_append_right (by rw [h0,Nat.succ_mul];omega),h0,show (i+1)*sz+j-sz=i*sz+j by rw [Nat.succ_mul];omega];exact zF (λr hr=>hl r (List.mem_cons_of_mem _ hr)) (by simpa using h) hj
section
variable {sz n:Nat}{e:TypeId}{F:PH}{w w':World}{v:Value}
theorem aA.nil (sz:Nat) (e:TypeId) (F:PH) (w:World):aA sz e F 0 w (.slice none 0 0):=⟨[],rfl,λ_ h=>by (cases h),er.nil sz e w,λi r h=>by simp at h⟩
theorem aA.arr (h:aA sz e F n w v):Arr sz F n w v:=by
 obtain ⟨rows,hl,hs,ho,hF⟩:=h;rcases ho.1.2 with ⟨rfl,h2⟩ | ⟨g,cap,cur,rfl,hb,hh,h3,h4,h5,h6⟩
 ·exact ⟨none,0,by rw [h2],λi hi=>by omega⟩
 ·refine ⟨_,cap,rfl,λi hi=>?_⟩;obtain ⟨r,hr⟩:∃r,rows[i]?=some r:=⟨rows[i],List.getElem?_eq_getElem (by omega)⟩;refine ⟨g,0,rfl,r,hs r (List.mem_of_getElem? hr),λj u hj=>?_,hF i r hr⟩;have hx:=zF hs hr hj;rw [<- h6,List.getElem?_take] at hx;split at hx
  ·simp [World.cell?,hh];rw [<- Array.getElem?_toList];exact hx
  ·cases hx
theorem fp (v:Value):blk v=v.ownBlock:=by unfold blk Value.ownBlock;split <;> simp_all
end
def cA (T U:TypeId):Op->Option (List Operand)
 | .call ⟨.builtin .append,args,ts⟩=>if ts = #[T,U] then some args.toList else none
 | _=>none
theorem om {o:Op}{f:Operand->Value}{xs:List Operand} (h:cA T U o=some xs) (hl:xs.map f = [y,u]):∃a b,o = .call ⟨.builtin .append,#[a,b],#[T,U]⟩∧xs = [a,b]∧f a=y∧f b=u:=by
 unfold cA at h;split at h
 case h_2=>cases h
 rename_i args ts;split at h
 case isFalse=>cases h
 rename_i hts;subst hts;simp only [Option.some.injEq] at h;subst h
 match hl':args.toList,hl with
 | [a,b],hl=>
  have hargs:args = #[a,b]:=by apply Array.ext';simpa using hl'
  subst hargs;simp only [List.map_cons,List.map_nil,List.cons.injEq,and_true] at hl;exact ⟨a,b,rfl,rfl,hl.1,hl.2⟩
theorem lp {P:Program}{o:Oper}{a b:Operand}{ac:Act}{w w':World}{v:Value} (ho:o.op = .call ⟨.builtin .append,#[a,b],#[T,U]⟩) (h1:ac.eval a=y) (h2:ac.eval b=u) (hr:(Builtin.append_ #[T,U] o.type #[y,u]).run P w = .ok v w'):(execOp ac.eval o).run P w = .ok (.value v) w':=by unfold execOp;simp [ho,resolve,invoke,builtin,h1,h2,hr]
theorem AF {Φ:PH}{p q x j sz n:Nat}{t e:TypeId}{F:PH}{i0:TypeInfo}{z:Value}{bytes:Nat} (hU:prog.underlying t=some (.slice e)) (hi:prog.info? e=some i0) (hz0:i0.zero=some z) (hz1:i0.size=sz) (hz2:i0.bytes=bytes) (hzs:z.cells.size=sz) (hzn:∀x,x ∈ z.cells.toList->dd x)
  (hF:∀i w w1 v,Kp w w1->F i w v->F i w1 v) (hp:Im Φ p (aA sz e F n)) (hq:Im Φ q (F n)) (hc:∀w (l:List Value),Φ q w (.agg l.toArray)->∀u,u ∈ l->u.oneCell'=true∧dd u) (hn:n<=1000000) (hx:Φ x=aA sz e F (n+1)) (hsz:0<sz:=by omega) (hbb:bytes<=1000:=by omega) :
  aj Φ prog ⟨0,[.fact p,.row sz [q]],[oS x],.loose [] j 0 (cA t t)⟩:=λX L w ac o ys hX hL hLX hm ha hb _=>by
 obtain ⟨y,u,hys⟩:∃y u,ys.map ac.eval = [y,u]:=by
  match ys.map ac.eval,ha with
  | [y,u],_=>exact ⟨y,u,rfl⟩
 rw [show List.map ac.eval ys = [y,u] from hys] at ha
 ·obtain ⟨a,b,ho,rfl,ea,eb⟩:=om hm hys;obtain ⟨h1,⟨g,hu,⟨l,hl,hcells,hl3⟩,-⟩,-⟩:=ha;obtain ⟨rows,r1,r2,r3,r4⟩:=hp _ _ (h1 w (Off.refl _ _));have hql:=hl3 w (Off.refl _ _);have hu':u = .slice (some ⟨g,0,none⟩) 1 1:=hu;obtain ⟨v',w',hr,ho',hg,hbl⟩:=AP t o.type hU hi hz0 hz1 hz2 hzs hsz hbb hzn r3 ⟨g,0,none⟩ 1 l hl (λk v hk=>by rw [Addr.add_lit];exact hcells k v hk) (λv hv=>(hc w l hql v hv).1) (λv hv=>(hc w l hql v hv).2) hn;have hkp:=r3.kp hg;have hLy:∀m,y.ownBlock=some m->L m:=λm hm'=>hb a m rfl (by rw [ea,fp];exact hm');have hv':∀m,v'.ownBlock=some m->L m∨m=w.heap.size:=λm hm'=>by
   rcases hbl with h | h
   ·exact .inl (hLy m (by rw [<- h];exact hm'))
   ·rw [hm'] at h;exact .inr (Option.some.inj h)
  have hrun:=lp (o:=o) (P:=prog) ho ea (by rw [eb,hu']) hr;refine ⟨v',w',y.ownBlock,hrun,hg,hLy,hkp,λm k v hm' h4 h5=>?_,λm hm'=>?_,?_⟩
  ·have hbk:=hg.block m (World.block_lt_of_cell? _ _ h4) (λe'=>hm' m e'.symm rfl);refine ⟨by rw [World.cell?_of_block hbk];exact h4,?_⟩;simp only [World.frozen?,hbk] at h5 ⊢;exact h5
  ·rw [fp] at hm';refine ⟨ho'.lt m hm',?_⟩;rcases hv' m hm' with h | h
   ·exact .inl h
   ·exact .inr (by omega)
  ·obtain ⟨p1,n1,c1,rfl⟩:∃p n c,v' = .slice p n c:=by
    rcases ho'.1.2 with ⟨h,-⟩ | ⟨_,_,_,h,-⟩ <;> exact ⟨_,_,_,h⟩
   refine ⟨⟨⟨⟨_,_,_,rfl⟩,λ_ h=>by cases h⟩,λs hs w1 hw=>?_⟩,trivial⟩;simp only [List.mem_singleton] at hs;subst hs;show Φ x w1 _;rw [hx];refine ⟨rows ++ [l],by simp [r1],λr hr=>?_,?_,λi r hr=>?_⟩
   ·rcases List.mem_append.1 hr with hr | hr
    ·exact r2 r hr
    ·rw [List.mem_singleton.1 hr,hl]
   ·rw [List.flatten_append,List.flatten_singleton];refine ho'.keep λm hm'=>hw.2 m (ho'.lt m hm') λhx'=>?_;rcases hv' m hm' with h | h
    ·exact hLX m h hx'
    ·have:=hX m hx';omega
   ·rw [List.getElem?_append] at hr;split at hr
    ·exact hF _ _ _ _ (hkp.trans hw.1) (r4 i r hr)
    ·rename_i hge;have hi':i=n:=by
      have:=(List.getElem?_eq_some_iff.1 hr).1;simp at this;omega
     subst hi';rw [r1,Nat.sub_self] at hr;simp at hr;subst hr;exact hF _ _ _ _ (hkp.trans hw.1) (hq _ _ hql)
end Go.Proofs.YtlmanbjkkjfjgaaGreat.Sym
namespace Go.Proofs.YtlmanbjkkjfjgaaGreat
open Go.Proofs.Tryz
open Go.RowKit
def setMany:List Value->Nat->List Value->List Value
 | xs,_,[]=>xs
 | xs,o,v :: vs=>setMany (xs.set o v) (o+1) vs
theorem KJ:∀(l p r t:List Value),r.length=l.length->setMany (p ++ (r ++ t)) p.length l=p ++ (l ++ t)
 | [],p,r,t,h=>by have:r = []:=List.eq_nil_of_length_eq_zero h;subst this;rfl
 | v :: l,p,[],t,h=>by simp at h
 | v :: l,p,u :: r,t,h=>by
  rw [setMany];have e:(p ++ ((u :: r) ++ t)).set p.length v=(p ++ [v]) ++ (r ++ t):=by rw [List.set_append_right _ _ (Nat.le_refl _),Nat.sub_self];simp
  rw [e,show p.length+1=(p ++ [v]).length by simp,KJ l (p ++ [v]) r t (by simpa using h)];simp
theorem kA {sz:Nat}:∀{rows:List (List Value)},(∀r,r ∈ rows->r.length=sz)->rows.flatten.length=rows.length*sz
 | [],_=>by simp
 | r :: rows,h=>by rw [List.flatten_cons,List.length_append,h r (List.mem_cons_self ..),kA (λr hr=>h r (List.mem_cons_of_mem _ hr)),List.length_cons,Nat.succ_mul];omega
theorem ahq {sz i:Nat}{rows:List (List Value)}{l:List Value} (h:∀r,r ∈ rows->r.length=sz) (hl:l.length=sz) (hi:i<rows.length:=by omega):(rows.set i l).flatten=setMany rows.flatten (i*sz) l:=by
 have e1:rows.flatten=(rows.take i).flatten ++ (rows[i] ++ (rows.drop (i+1)).flatten):=by
  conv=>lhs;rw [<- List.take_append_drop i rows,List.drop_eq_getElem_cons hi]
  rw [List.flatten_append,List.flatten_cons]
 have e2:(rows.take i).flatten.length=i*sz:=by rw [kA (sz:=sz) (λr hr=>h r (List.mem_of_mem_take hr)),List.length_take,Nat.min_eq_left (by omega)]
 rw [e1,<- e2,KJ l _ _ _ (by rw [hl];exact h _ (List.getElem_mem hi)),List.set_eq_take_append_cons_drop,if_pos hi,List.flatten_append,List.flatten_cons]
section
variable {sz n cap g:Nat}{e:TypeId}{w:World}
theorem er.storeCells:∀(vs:List Value) (o:Nat) (xs:List Value) (w:World),er sz e w (.slice (some ⟨g,0,none⟩) n cap) n xs->(∀v,v ∈ vs->dd v)->er sz e (w.setCells g o vs) (.slice (some ⟨g,0,none⟩) n cap) n (setMany xs o vs)
 | [],_,_,_,h,_=>h
 | v :: vs,o,xs,w,h,hv=>by
  obtain ⟨h1,h2⟩:=h.1.stored o v;refine er.storeCells vs (o+1) (xs.set o v) _ ⟨h1,λg' cur e' p hg hh x hx=>?_⟩ (λu hu=>hv u (List.mem_cons_of_mem _ hu));simp only [Value.ownBlock,Option.some.injEq] at hg;subst hg;rcases h.1.2 with ⟨h',_⟩ | ⟨g',cap',cur',h',_,hg',_⟩
  ·simp at h'
  ·simp only [Value.slice.injEq,Option.some.injEq,Addr.mk.injEq,and_true,true_and] at h';obtain ⟨rfl,rfl⟩:=h';rw [heap_setCell_same w g o cur' e v hg'] at hh;cases hh;rw [Array.toList_setIfInBounds] at hx;rcases List.mem_or_eq_of_mem_set hx with hx | hx
   ·exact h.2 g cur' _ _ rfl hg' x hx
   ·subst hx;exact hv _ (List.mem_cons_self ..)
end
end Go.Proofs.YtlmanbjkkjfjgaaGreat
namespace Go.Proofs.YtlmanbjkkjfjgaaGreat.Sym
open Go.Proofs.Tryz
open Go.RowKit
variable {T e t:TypeId}{G:WP}{w:World}{u v:Value}{i sz:Nat}{F:PH}{c:Int}
def At (sz:Nat) (_:World) (v:Value):Prop:=∃(b off n c k:Nat),v = .agg #[.slice (some ⟨b,off,none⟩) n c,.int .i64 (k:Int),.pointer (some ⟨b,off+k*sz,none⟩)]
def fE (T:TypeId) (xS xI:Operand):Op->Option (List Operand)
 | .store t x y=>if t=T then some [xS,xI,x,y] else none
 | _=>none
def ga (T:TypeId):Op->Option (List Operand)
 | .makeSlice t x y=>if t=T then some [x,y] else none
 | _=>none
section
variable {P:Program}{Φ:PH}{p q r x y n j:Nat}{F':PH}
theorem WX  (hT:P.underlying T=some (.slice e)) (hz:dU P e=some sz) (hp:Im Φ p (Arr sz F n)) (hq:Im Φ q (Ni (i:Int))) (hi:i<n) (hx:Φ x=Ptr sz (F i)) (hy:Φ y=At sz) (J:List Nat) :
  aj Φ P ⟨0,[.fact p,.fact q],[oP x],.joint J y (adK T)⟩:=λX w ac o xs hX hm ha=>by
 obtain ⟨u,w',h1,h2,h3⟩:=lG hT hz hp hq hi hx X w ac o xs hX hm ha;unfold adK at hm;split at hm
 case h_2=>cases hm
 rename_i t a b ho;split at hm
 case isFalse=>cases hm
 rename_i ht;subst ht;simp only [Option.some.injEq] at hm;subst hm;refine ⟨u,w',h1,h2,h3,λw1 _=>?_⟩;obtain ⟨s,c,hv,he⟩:=hp _ _ (ha.1 w (Off.refl _ _));obtain ⟨g,off,rfl,_⟩:=he i hi;have hi2:=hq _ _ (ha.2.1 w (Off.refl _ _));have hr:(execOp ac.eval o).run P w = .ok (.value (.pointer (some ⟨g,off+i*sz,none⟩))) w:=by
  unfold execOp;have h4:¬n<=i:=by omega
  simp [ho,hv,hi2,Instr.indexAt,asIntOf,run_underlying hT,run_sizeOf hz,jH,h4]
 rw [h1] at hr;injection hr with e1 e2
 injection e1 with e1
 subst e1;rw [hy];exact ⟨g,off,n,c,i,by simp [hv,hi2]⟩
theorem ij  (xS xI:Operand) (hp:Im Φ p (aA sz e F n)) (hq:Im Φ q (Ni (i:Int))) (hr:Im Φ r G) (hy:Φ y=At sz)
  (hc:∀w v,Φ r w v->∃l:List Value,v = .agg l.toArray∧l.length=sz∧∀u,u ∈ l->u.oneCell'=true∧dd u) (hF:∀k w w1 v,Kp w w1->F k w v->F k w1 v) (hG:∀w w1 v,Kp w w1->G w v->G w1 v) (hF':∀k w v,k≠i->F k w v->F' k w v) (hG':∀w v,G w v->F' i w v) (hx:Φ x=aA sz e F' n) (hz:dU P t=some sz:=by kernel_rfl) (hi:i<n:=by omega) :
  aj Φ P ⟨0,[.fact p,.fact q,.any,.fact r],[oS x],.put [] j 0 y (fE t xS xI)⟩:=λX L w ac o xs hX hL hLX hm ha hjt hb=>by
 unfold fE at hm;split at hm
 case h_2=>cases hm
 rename_i t' a b ho;split at hm
 case isFalse=>cases hm
 rename_i ht;subst ht;simp only [Option.some.injEq] at hm;subst hm;obtain ⟨rows,r1,r2,r3,r4⟩:=hp _ _ (ha.1 w (Off.refl _ _));have hi2:=hq _ _ (ha.2.1 w (Off.refl _ _));have hval:=ha.2.2.2.1;obtain ⟨l,hl1,hl2,hl3⟩:=hc _ _ (hval w (Off.refl _ _));have hgv:=hr _ _ (hval w (Off.refl _ _));have hAt:=hjt w (Off.refl _ _);rw [hy] at hAt;obtain ⟨g,off,n1,c,k,hAt⟩:=hAt;simp only [List.dropLast_cons_cons,List.dropLast_singleton,List.map_cons,List.map_nil,Value.agg.injEq,Array.mk.injEq,List.cons.injEq,and_true] at hAt;obtain ⟨h1,h2,h3⟩:=hAt;have hk:k=i:=by
  rw [hi2] at h2;injection h2 with _ h2
  omega
 subst hk;rw [h1] at r3;have hoff:off=0∧n1=n:=by
  rcases r3.1.2 with ⟨h',_⟩ | ⟨g',cap',cur',h',_⟩
  ·simp at h'
  ·simp only [Value.slice.injEq,Option.some.injEq,Addr.mk.injEq,and_true] at h';exact ⟨h'.1.2,h'.2.1⟩
 obtain ⟨rfl,rfl⟩:=hoff;rw [Nat.zero_add] at h3;have hbound:∀m,m<l.length->k*sz+m<n1*sz:=λm hm=>by have:(k+1)*sz<=n1*sz:=Nat.mul_le_mul_right _ hi;rw [Nat.succ_mul] at this;omega
 have hcell:∀m,m<l.length->(w.cell? ⟨g,k*sz+m,none⟩).isSome=true:=λm hm=>by rw [r3.1.cellAt _ (hbound m hm),List.getElem?_eq_getElem (by rw [r3.1.1];exact hbound m hm)];rfl
 have hrun:=run_storeCells_cells (P:=P) g (k*sz) l 0 w (λm hm=>by rw [Nat.add_zero];exact hcell m hm) (λm _=>r3.1.frozenAt _) (λv hv=>(hl3 v hv).1);rw [Nat.add_zero] at hrun;have hst:=er.storeCells l (k*sz) rows.flatten w r3 (λv hv=>(hl3 v hv).2);have hgr:w.grownBy (w.setCells g (k*sz) l) (some g):=jE g _ _ _;have hkp:Kp w (w.setCells g (k*sz) l):=r3.kp hgr;have hLg:L g:=hb xS g rfl (by rw [h1];rfl);refine ⟨w.setCells g (k*sz) l,some g,?_,hgr,λm hm=>Option.some.inj hm▸hLg,hkp,λm q v hm h4 h5=>?_,λx0 hx0=>?_⟩
 ·have e0:Instr.sureAddr (.pointer (some ⟨g,k*sz,none⟩))=pure ⟨g,k*sz,none⟩:=rfl;unfold execOp;simp only [ho,h3,hl1];simp only [Instr.storeAt,e0,storeVar,Value.cells,Sem.run_bind,Sem.run_pure,Result.andThen_ok,run_sizeOf hz];simp [hrun,hl2]
 ·have hbk:=hgr.block m (World.block_lt_of_cell? _ _ h4) (λe'=>hm m e'.symm rfl);refine ⟨by rw [World.cell?_of_block hbk];exact h4,?_⟩;simp only [World.frozen?,hbk] at h5 ⊢;exact h5
 ·simp only [List.dropLast_cons_cons,List.getElem?_cons_zero,Option.some.injEq] at hx0;subst hx0;rw [h1];refine ⟨⟨⟨⟨_,_,_,rfl⟩,λ_ h=>by cases h⟩,λs hs w1 hw=>?_⟩,trivial⟩;simp only [List.mem_singleton] at hs;subst hs;show Φ x w1 _;rw [hx];refine ⟨rows.set k l,by simp [r1],λr' hr'=>?_,?_,λm r' hr'=>?_⟩
  ·rcases List.mem_or_eq_of_mem_set hr' with h | h
   ·exact r2 r' h
   ·rw [h,hl2]
  ·rw [ahq r2 hl2];refine hst.keep λm hm'=>hw.2 m (hst.lt m hm') λhx'=>?_;simp only [Value.ownBlock,Option.some.injEq] at hm';subst hm';exact hLX _ hLg hx'
  ·rw [List.getElem?_set] at hr';split at hr'
   ·rename_i e';subst e';split at hr'
    ·simp only [Option.some.injEq] at hr';subst hr';rw [<- hl1];exact hG' _ _ (hG _ _ _ (hkp.trans hw.1) hgv)
    ·cases hr'
   ·rename_i e';exact hF' _ _ _ (λh=>e' h.symm) (hF _ _ _ _ (hkp.trans hw.1) (r4 m r' hr'))
theorem KK {z:Array Value}{n:Nat} (hz:z.size=sz) (h0:0<sz):(madeCells z (n*sz)).toList=(List.replicate n z.toList).flatten:=by
 have hall:∀r,r ∈ List.replicate n z.toList->r.length=sz:=λr hr=>by rw [(List.mem_replicate.1 hr).2];simpa using hz
 apply List.ext_getElem?;intro j;by_cases hj:j<n*sz
 ·have hi:j / sz<n:=Nat.div_lt_of_lt_mul (by rw [Nat.mul_comm];exact hj);have hm:j % sz<z.size:=by rw [hz];exact Nat.mod_lt _ h0
  have h1:=zF hall (i:=j / sz) (j:=j % sz) (r:=z.toList) (u:=z[j % sz]) (by simp [hi]) (by simp [hm]);rw [Nat.mul_comm,Nat.div_add_mod] at h1;rw [h1];simp only [madeCells,Array.toList_map,List.getElem?_map,Array.getElem?_toList];rw [Array.getElem?_eq_getElem (by simpa using hj)];simp [hz,getElem!_pos z (j % sz) hm]
 ·rw [List.getElem?_eq_none (by rw [Array.length_toList,size_madeCells];omega),List.getElem?_eq_none (by rw [kA hall,List.length_replicate];omega)]
theorem vD {i0:TypeInfo}{z:Value}{bytes:Nat} (hU:P.underlying t=some (.slice e)) (hi:P.info? e=some i0) (hz0:i0.zero=some z) (hz1:i0.size=sz) (hz2:i0.bytes=bytes) (hzs:z.cells.size=sz) (hzn:∀u,u ∈ z.cells.toList->dd u) (hp:Im Φ p (Ni (n:Int))) (hn:n<=1000000) (hF:∀k w,F k w (.agg z.cells)) (hx:Φ x=aA sz e F n) (hsz:0<sz:=by omega) (hbb:bytes<=1000:=by omega) :
  aj Φ P ⟨0,[.fact p,.fact p],[oS x],.loose [] j 0 (ga t)⟩:=λX L w ac o xs hX hL hLX hm ha hb _=>by
 unfold ga at hm;split at hm
 case h_2=>cases hm
 rename_i t' a b ho;split at hm
 case isFalse=>cases hm
 rename_i ht;subst ht;simp only [Option.some.injEq] at hm;subst hm;have h1:=hp _ _ (ha.1 w (Off.refl _ _));have h2:=hp _ _ (ha.2.1 w (Off.refl _ _));have hby:i0.bytes*n<=281474976710656:=by rw [hz2];exact Nat.le_trans (Nat.mul_le_mul hbb hn) (by decide)
 have hr:=run_make (P:=P) w t' e i0 z hU hi hz0 .i64 .i64 n n (by omega) (Int.le_refl _) (by have h:((i0.bytes*n:Nat):Int)<=281474976710656:=(by omega);rwa [Int.natCast_mul] at h) (by omega);simp only [Int.toNat_natCast,hz1] at hr;have hrow:=World.ownsRow_lit (base:=0) (e:=e) (size:=sz) w (madeCells z.cells (n*sz)) n (by omega) (by simp only [maxLen];omega) (size_madeCells _ _);have hg:=World.grownBy_alloc w (.cells (madeCells z.cells (n*sz)) e) none;rw [KK hzs hsz] at hrow;refine ⟨.slice (some ⟨w.heap.size,0,none⟩) n n,w.alloc (.cells (madeCells z.cells (n*sz)) e),none,?_,hg,λ_ h=>(by cases h),Kp.of hg,λm q v _ h4 h5=>⟨cell_grown hg h4,gX hg h4 h5⟩,λm hm=>?_,⟨⟨⟨⟨_,_,_,rfl⟩,λ_ h=>by cases h⟩,λs hs w1 hw=>?_⟩,trivial⟩⟩
 ·unfold execOp;simp [ho,h1,h2,hr]
 ·simp only [blk,Option.some.injEq] at hm;subst hm;exact ⟨by simp,.inr (Nat.le_refl _)⟩
 ·simp only [List.mem_singleton] at hs;subst hs;show Φ x w1 _;rw [hx];show aA sz e F n w1 (.slice (some ⟨w.heap.size,0,none⟩) n n);refine ⟨List.replicate n z.cells.toList,by simp,λr' hr'=>by rw [(List.mem_replicate.1 hr').2];simpa using hzs,?_,λm r' hr'=>?_⟩
  ·refine er.keep (w:=w.alloc (.cells (madeCells z.cells (n*sz)) e)) ⟨hrow,λg cur e' p' hg' hh u hu=>?_⟩ λg hg'=>?_
   ·simp only [Value.ownBlock,Option.some.injEq] at hg';subst hg';rw [heap_alloc_new] at hh;cases hh;rw [KK hzs hsz] at hu;obtain ⟨l,hl,hul⟩:=List.mem_flatten.1 hu;rw [(List.mem_replicate.1 hl).2] at hul;exact hzn u hul
   ·simp only [Value.ownBlock,Option.some.injEq] at hg';subst hg';exact hw.2 _ (by simp) (λh=>by have:=hX _ h;omega)
  ·have:=(List.mem_replicate.1 (List.mem_of_getElem? hr')).2;subst this;exact hF m w1
end
section
variable {P:Program}{Φ:Nat->World->Value->Prop}{X:Nat->Prop}
def WT (st:List It):List C->Bool
 | [.one a]=>st.any λz=>match z with
  | .lo _ b=>b.beq a
  | _=>false
 | _=>false
def Gy (P:Program) (fn:Func) (c:Code) (ins:List Out) (ss:List Step) (res:List Out):Bool:=
 decide (ins.length<=fn.ntmps) && ins.all (λo=>o.sh.good) &&
 match ek P fn.ntmps c (start ins) 1 ss with
 | some (.exit _,_,_,_)=>false
 | some (_,st,_,_)=>(match fn.results.toList.mapM (nC P st) with
  | some cs=>nE st cs res && (cs.length == 1) && WT st cs
  | none=>false)
 | none=>false
def Gz (P:Program) (fn:Func) (ins:List Out) (ss:List Step) (res:List Out):Bool:=match fn.body with
 | some c=>Gy P fn c ins ss res
 | none=>false
theorem WU {ins:List Out}{vs:List Value}{W:World}{n:Nat} (hX:∀k,X k->k<W.heap.size) (hins:cG Φ X W ins vs) (hle:ins.length<=n) (hgood:ins.all (λo=>o.sh.good)=true):dr Φ X { W with drawn:=0 } n (start ins) { tmps:=vs.toArray ++ Array.replicate (n-vs.toArray.size) undef,defers:=[] } W:=by
 have hlen:=hins.length;obtain ⟨e1,e2⟩:=gP (ρ:=da) (k:=0) (l:=vs.flatMap cellsOf) (c:=0) hins hgood (λj u hj=>by rw [Nat.zero_add];exact hj);refine ⟨da.put 0 (vs.flatMap cellsOf),⟨rfl,by simp;omega,GA (bH _ _),λj k g h=>by simp [Env.put,da] at h,λk g h=>by simp [Env.put,da] at h,hX,λj k h=>h.elim,λi j k h=>by simp [Env.put,da] at h,λi j k h=>h.elim,⟨Nat.zero_le _,λj k _ h=>h.elim⟩⟩,λx hx=>?_⟩;rcases List.mem_append.1 hx with hx | hx
 ·obtain ⟨m,y,rfl,hm⟩:=yi 0 hx;simp only [Nat.zero_add,It.holds,SV.ev];have:vs[m]?=some (y.ev (da.put 0 (vs.flatMap cellsOf))):=by have h:=congrArg (λl:List Value=>l[m]?) e1;simp only [List.getElem?_map,hm,Option.map_some] at h;exact h.symm
  have hlt:=(List.getElem?_eq_some_iff.1 this).1;rw [Array.getElem?_append_left (by simpa using hlt)];simpa using this
 ·obtain ⟨y,p,rfl,hy⟩:=e2 x hx;exact λw1 hw=>hy w1 (hw.1 |> λh1=>⟨h1,λk hk hn=>hw.2 k hk (λho=>by
   rcases ho with ho | ⟨j,ho⟩ | ⟨j,-,ho⟩
   ·exact hn ho
   ·simp [Env.put,da] at ho
   ·exact ho.elim)⟩)
theorem iJ {s:Site}{fn:Func} (ins res:List Out) (ss:List Step) (hf:P.funcs[s.f]?=some fn) (hrun:Gz P fn ins ss res=true) (hs:∀t,t ∈ ss->cH P Φ t)
  (hin:∀(X:Nat->Prop) (w:World) (vs:List Value),(∀k,X k->k<w.heap.size)->cX Φ X w s.args vs->cG Φ X w ins vs)
  (hout:∀(X:Nat->Prop) (w:World) (us:List Value),cG Φ X w res us->cG Φ X w s.outs us):eT Φ P s:=by
 intro X W vs hX hargs;unfold Gz at hrun;split at hrun
 case h_2=>cases hrun
 rename_i c hb;simp only [Gy,Bool.and_eq_true,decide_eq_true_eq] at hrun;obtain ⟨⟨hle,hgood⟩,hrun⟩:=hrun;refine calls_of_wp hf hb ?_;have hstart:=WU (n:=fn.ntmps) hX (hin X W vs hX hargs) hle hgood;split at hrun
 case h_1=>cases hrun
 case h_3=>cases hrun
 rename_i x st k' r hne hr;obtain ⟨_,hw⟩:=GB (X:=X) (W:={ W with drawn:=0 }) c _ _ _ _ _ _ _ hr Φ hs;refine hw _ (λa w hK=>?_) _ _ hstart;split at hrun
 case h_2=>cases hrun
 rename_i cs hcs;simp only [Bool.and_eq_true,beq_iff_eq] at hrun;obtain ⟨ρ,hG,hx⟩:=hK;have hres:=yj (P:=P) hx hcs
 match cs,hrun with
 | [y],hrun=>
  have hpost:a.defers = []∧∃v,(results fn a.tmps).run P w = .ok v w∧(W.grownBy w none∧∃u:Value,Ending.returned v = .returned u∧cG Φ X w s.outs [u]∧∀g,blk u=some g->W.heap.size<=g∧g<w.heap.size):=by
   refine ⟨hG.defers,y.ev ρ,?_,GC hG.grown,_,rfl,hout X w _ (yk hx hrun.1.1),λg hg=>?_⟩
   ·rw [GD];simp [Array.mapM_eq_mapM_toList,hres]
   ·have h2:=hrun.2
    match y,h2 with
    | .one b,h2=>
     obtain ⟨z,hz,hb⟩:=List.any_eq_true.1 h2;have hz':=hx z hz;cases z with
     | lo j c=>
      have e:=Atom.dK hb;subst e;exact hG.loose j g (hz' g hg)
     | _=>cases hb
  cases x with
  | normal=>exact hpost
  | ret=>exact hpost
  | exit id=>exact absurd rfl (hne id)
def Pin (w:World) (v:Value) (w1:World) (_:Value):Prop:=Kp w w1∧∀k,k<w.heap.size->blk v≠some k->w1.heap[k]?=w.heap[k]?
theorem Pin.off {w1:World} (h:Off (λk=>blk v=some k) w w1):Pin w v w1 u:=⟨h.1,λk hk hb=>h.2 k hk hb⟩
end
def Rw (sz:Nat) (F:PH) (n:Nat) (w:World) (v:Value):Prop:=
 ∃p c,v = .slice p n c∧n<=c∧∀i,i<n->∃b off,p=some ⟨b,off,none⟩∧∃l:List Value,l.length=sz∧(∀(j:Nat) (u:Value),l[j]?=some u->w.cell? ⟨b,off+i*sz+j,none⟩=some u)∧F i w (.agg l.toArray)
section
variable {n m:Nat}{G:PH}{w':World}
theorem Rw.arr (h:Rw sz F n w v):Arr sz F n w v:=by obtain ⟨p,c,h1,_,h2⟩:=h;exact ⟨p,c,h1,h2⟩
theorem Rw.is (h:Rw sz F n w v):(cC.one .s).is v:=by obtain ⟨p,c,rfl,_⟩:=h;exact ⟨⟨_,_,_,rfl⟩,λ_ h=>by cases h⟩
theorem Rw.map (h:Rw sz F n w v) (hm:m<=n) (hf:∀i w v,i<m->F i w v->G i w v):∃p c,v = .slice p n c∧m<=c∧Rw sz G m w (.slice p m c):=by obtain ⟨p,c,h1,h2,h3⟩:=h;refine ⟨p,c,h1,by omega,p,c,rfl,by omega,λi hi=>?_⟩;obtain ⟨b,off,h4,l,h5,h6,h7⟩:=h3 i (by omega);exact ⟨b,off,h4,l,h5,h6,hf i w _ hi h7⟩
theorem Rw.to (h:Rw sz F n w v) (hf:∀i w v,i<n->F i w v->G i w v):Rw sz G n w v:=by obtain ⟨p,c,h1,h2,h3⟩:=h;refine ⟨p,c,h1,h2,λi hi=>?_⟩;obtain ⟨b,off,h4,l,h5,h6,h7⟩:=h3 i hi;exact ⟨b,off,h4,l,h5,h6,hf i w _ hi h7⟩
theorem Rw.len (h:Rw sz F n w v) (e:n=m):Rw sz F m w v:=e▸h
theorem Rw.nil (sz:Nat) (F:PH) (w:World):Rw sz F 0 w (.slice none 0 0):=⟨none,0,rfl,Nat.le_refl _,λi hi=>by omega⟩
theorem aA.rw (h:aA sz e F n w v):Rw sz F n w v:=by
 have h':=h.arr;obtain ⟨rows,hl,hs,ho,hF⟩:=h;obtain ⟨p,c,h1,h2⟩:=h';refine ⟨p,c,h1,?_,h2⟩;rcases ho.1.2 with ⟨h3,h4⟩ | ⟨g,cap,cur,h3,hb,hh,h4,_⟩
 ·rw [h1] at h3;injection h3 with _ _ h3
  omega
 ·rw [h1] at h3;injection h3 with _ _ h3
  omega
theorem aA.to (h:aA sz e F n w v) (hf:∀i w v,i<n->F i w v->G i w v):aA sz e G n w v:=by obtain ⟨rows,hl,hs,ho,hF⟩:=h;exact ⟨rows,hl,hs,ho,λi r hr=>hf i w _ (by have:=(List.getElem?_eq_some_iff.1 hr).1;omega) (hF i r hr)⟩
theorem Rw.arg {Φ:PH}{p:Nat} (hF:∀i w w1 v,Kp w w1->F i w v->F i w1 v) (h:Rw sz F n w v) (hp:Φ p=Rw sz F n:=by rfl){X:Nat->Prop} (hX:∀b,X b->w.heap.size<=b):(Arg.fact p).ok Φ X w v:=λw1 hw=>by rw [hp];obtain ⟨p,c,rfl,hc,h1⟩:=h;refine ⟨p,c,rfl,hc,λi hi=>?_⟩;obtain ⟨b,off,rfl,l,h2,h3,h4⟩:=h1 i hi;refine ⟨b,off,rfl,l,h2,λj u hj=>?_,hF _ _ _ _ hw.1 h4⟩;have:=h3 j u hj;have hlt:=World.block_lt_of_cell? _ _ this;rw [World.cell?_of_block (hw.2 b hlt (λh=>by have:=hX b h;simp only at hlt;omega))];exact this
end
def eL (T:TypeId):Op->Option (List Operand)
 | .slice t x none (some h) none=>if t=T then some [x,h] else none
 | _=>none
def kF (op:Builtin):Op->Option (List Operand)
 | .call ⟨.builtin b,args,_⟩=>if b == op then some args.toList else none
 | _=>none
section
variable {P:Program}{Φ:PH}{X:Nat->Prop}{p q x:Nat}{a b:Int}
theorem oM {n m:Nat} (hT:P.underlying T=some (.slice e)) (hp:Im Φ p (Rw sz F n)) (hq:Im Φ q (Ni (m:Int))) (hm':m<=n) (hx:Φ x=Rw sz F m) (hz:dU P e=some sz:=by kernel_rfl):aj Φ P ⟨0,[.fact p,.fact q],[oS x],.quiet (eL T)⟩:=λX w ac o xs _ hm ha=>by
 unfold eL at hm;split at hm
 case h_2=>cases hm
 rename_i t y z ho;split at hm
 case isFalse=>cases hm
 rename_i ht;subst ht;simp only [Option.some.injEq] at hm;subst hm;obtain ⟨s,c,hv,hc,he⟩:=hp _ _ (ha.1 w (Off.refl _ _));have hi2:=hq _ _ (ha.2.1 w (Off.refl _ _));refine ⟨.slice s m c,w,?_,bH w none,⟨⟨⟨⟨_,_,_,rfl⟩,λ_ h=>by cases h⟩,λr hr w1 hw=>?_⟩,trivial⟩⟩
 ·unfold execOp;have h0:(0:Int)<=(m:Int):=Int.natCast_nonneg m;have h1:(m:Int)<=(c:Int):=by omega
  have ha0:(s.map λy=>y.add 0)=s:=by cases s <;> simp [Addr.add_zero']
  simp only [ho,Option.map_none,Option.map_some,hv,hi2];simp [Instr.sliceAt,Instr.slice,run_underlying hT,Instr.sliceBounds,run_sliceBound (P:=P) w .i64 (m:Int) c .sliceAcap h0 h1,run_sizeOf hz,ha0]
 ·simp only [List.mem_singleton] at hr;subst hr;show Φ x w1 _;rw [hx];obtain ⟨s',c',hv',_,he'⟩:=hp _ _ (ha.1 w1 hw);rw [hv] at hv';simp only [Value.slice.injEq,true_and] at hv';obtain ⟨rfl,rfl⟩:=hv';exact ⟨s,c,rfl,by omega,λi hi=>he' i (by omega)⟩
theorem cP {sh:cC} (hs:sh.is u) (hx:Φ x=G) (h:∀w1,Off X w w1->G w1 u):cG Φ X w [⟨sh,[(0,0,x)]⟩] [u]:=⟨⟨hs,λr hr w1 hw=>by
 simp only [List.mem_singleton] at hr;subst hr;show Φ x w1 _;rw [hx];exact h w1 hw⟩,trivial⟩
theorem cY (z:Int):(cC.one .i).is (.int .i64 z):=⟨⟨_,rfl⟩,λ_ h=>by cases h⟩
theorem ch  (hp:Im Φ p (Ni a)) (hx:Φ x=Ni c) (hc:a+b=c:=by omega) (h1:-9223372036854775808<=c:=by omega) (h2:c<=9223372036854775807:=by omega):aj Φ P ⟨0,[.fact p,.lit (Ai b)],[oN x],.quiet (am .add)⟩:=λX w ac o xs _ hm ha=>by obtain ⟨t,y,z,yt,ho,rfl⟩:=oA hm;refine ⟨.int .i64 c,w,?_,bH w none,cP (cY c) hx λ_ _=>rfl⟩;refine mZ ho (hp _ _ (ha.1 w (Off.refl _ _))) ha.2.1 ?_;subst hc;simp [binOp,Op.intArith,IntWalk.i64_in _ ⟨h1,h2⟩]
theorem cO  (hp:Im Φ p (Ni a)) (hx:Φ x=Ni c) (hc:a-b=c:=by omega) (h1:-9223372036854775808<=c:=by omega) (h2:c<=9223372036854775807:=by omega):aj Φ P ⟨0,[.fact p,.lit (Ai b)],[oN x],.quiet (am .sub)⟩:=λX w ac o xs _ hm ha=>by obtain ⟨t,y,z,yt,ho,rfl⟩:=oA hm;refine ⟨.int .i64 c,w,?_,bH w none,cP (cY c) hx λ_ _=>rfl⟩;refine mZ ho (hp _ _ (ha.1 w (Off.refl _ _))) ha.2.1 ?_;subst hc;simp [binOp,Op.intArith,IntWalk.i64_in _ ⟨h1,h2⟩]
theorem jG  (hp:Im Φ p (Ni a)) (hq:Im Φ q (Ni b)) (hx:Φ x=Ni c) (hc:a+b=c:=by omega) (h1:-9223372036854775808<=c:=by omega) (h2:c<=9223372036854775807:=by omega):aj Φ P ⟨0,[.fact p,.fact q],[oN x],.quiet (am .add)⟩:=λX w ac o xs _ hm ha=>by obtain ⟨t,y,z,yt,ho,rfl⟩:=oA hm;refine ⟨.int .i64 c,w,?_,bH w none,cP (cY c) hx λ_ _=>rfl⟩;refine mZ ho (hp _ _ (ha.1 w (Off.refl _ _))) (hq _ _ (ha.2.1 w (Off.refl _ _))) ?_;subst hc;simp [binOp,Op.intArith,IntWalk.i64_in _ ⟨h1,h2⟩]
theorem GE {op:Builtin}{o:Op}{xs:List Operand} (h:kF op o=some xs):∃args ts,o = .call ⟨.builtin op,args,ts⟩∧xs=args.toList:=by
 unfold kF at h;split at h
 case h_2=>cases h
 rename_i b args ts;split at h
 case isFalse=>cases h
 rename_i hb;simp only [Option.some.injEq] at h;simp only [beq_iff_eq] at hb;subst hb;exact ⟨args,ts,rfl,h.symm⟩
theorem GF {args:Array Operand}{f:Operand->Value} (h:args.toList.map f = [u,v]):∃y z,args = #[y,z]∧f y=u∧f z=v:=by
 match hl:args.toList,h with
 | [y,z],h=>
  simp only [List.map_cons,List.map_nil,List.cons.injEq,and_true] at h;exact ⟨y,z,by apply Array.ext';simpa using hl,h.1,h.2⟩
theorem sH  (hp:Im Φ p (Ni a)) (hq:Im Φ q (Ni b)) (hc:(if b > a then b else a)=c) (hx:Φ x=Ni c):aj Φ P ⟨0,[.fact p,.fact q],[oN x],.quiet (kF .max)⟩:=λX w ac o xs _ hm ha=>by
 obtain ⟨args,ts,ho,rfl⟩:=GE hm;obtain ⟨u,v,huv⟩:∃u v,args.toList.map ac.eval = [u,v]:=by
  match args.toList.map ac.eval,ha with
  | [u,v],_=>exact ⟨u,v,rfl⟩
 rw [huv] at ha;obtain ⟨y,z,rfl,h1,h2⟩:=GF huv;have e1:=hp _ _ (ha.1 w (Off.refl _ _));have e2:=hq _ _ (ha.2.1 w (Off.refl _ _));refine ⟨.int .i64 c,w,?_,bH w none,cP (cY c) hx λ_ _=>rfl⟩;unfold execOp;simp [ho,resolve,invoke,builtin,h1,h2,e1,e2,run_max_int2,hc]
theorem PX  (hp:Im Φ p (Ni a)) (hc:(if b > a then b else a)=c) (hx:Φ x=Ni c):aj Φ P ⟨0,[.fact p,.lit (Ai b)],[oN x],.quiet (kF .max)⟩:=λX w ac o xs _ hm ha=>by
 obtain ⟨args,ts,ho,rfl⟩:=GE hm;obtain ⟨u,v,huv⟩:∃u v,args.toList.map ac.eval = [u,v]:=by
  match args.toList.map ac.eval,ha with
  | [u,v],_=>exact ⟨u,v,rfl⟩
 rw [huv] at ha;obtain ⟨y,z,rfl,h1,h2⟩:=GF huv;have e1:=hp _ _ (ha.1 w (Off.refl _ _));have e2:v = .int .i64 b:=ha.2.1;refine ⟨.int .i64 c,w,?_,bH w none,cP (cY c) hx λ_ _=>rfl⟩;unfold execOp;simp [ho,resolve,invoke,builtin,h1,h2,e1,e2,run_max_int2,hc]
theorem ym {z:Int} (hp:∀w v,Φ p w v->Ptr 1 (λ_ v=>v = .agg #[.int .i64 z]) w v) (hx:Φ x=Ni z) (hT:gV P T=some false:=by kernel_rfl):aj Φ P ⟨0,[.fact p],[oN x],.quiet (aQ T)⟩:=λX w ac o xs _ hm ha=>by
 unfold aQ at hm;split at hm
 case h_2=>cases hm
 rename_i t y ho;split at hm
 case isFalse=>cases hm
 rename_i ht;subst ht;simp only [Option.some.injEq] at hm;subst hm;obtain ⟨b,off,hv,l,h1,h2,h3⟩:=hp _ _ (ha.1 w (Off.refl _ _));obtain rfl:l = [.int .i64 z]:=by simpa using h3
 have hc:=h2 0 _ rfl;refine ⟨.int .i64 z,w,?_,bH w none,cP (cY z) hx λ_ _=>rfl⟩;rw [Nat.add_zero] at hc;unfold execOp;simp [ho,hv,Instr.loadAt,Instr.sureAddr,loadVar,gW hT,hc]
def ce (T:TypeId) (f:Nat):Op->Option (List Operand)
 | .fieldAddr t x g=>if t=T∧g=f then some [x] else none
 | _=>none
theorem cf {f off len:Nat}{F:WP} (hp:Im Φ p (Ptr sz F)) (hG:∀w (l:List Value),F w (.agg l.toArray)->G w (.agg ((l.drop off).take len).toArray)) (hx:Φ x=Ptr len G) (hf:rg P T f=some off:=by kernel_rfl) (hl:off+len<=sz:=by omega):aj Φ P ⟨0,[.fact p],[oP x],.quiet (ce T f)⟩:=λX w ac o xs _ hm ha=>by
 unfold ce at hm;split at hm
 case h_2=>cases hm
 rename_i t y g ho;split at hm
 case isFalse=>cases hm
 rename_i ht;obtain ⟨rfl,rfl⟩:=ht;simp only [Option.some.injEq] at hm;subst hm;obtain ⟨b,o',hv,_⟩:=hp _ _ (ha.1 w (Off.refl _ _));refine ⟨.pointer (some ⟨b,o'+off,none⟩),w,?_,bH w none,cP ⟨⟨_,rfl⟩,λ_ h=>by cases h⟩ hx λw1 hw=>?_⟩
 ·have hr:=GG (ρ:={ da with g:=λ_=>some b }) (w:=w) (k:=0) (o:=o') hf;unfold execOp;simp only [ho,hv];simp only [Atom.ev,Option.getD_some] at hr;simp [hr]
 ·obtain ⟨b',o1,hv',l,h1,h2,h3⟩:=hp _ _ (ha.1 w1 hw);rw [hv] at hv';simp only [Value.pointer.injEq,Option.some.injEq,Addr.mk.injEq] at hv';obtain ⟨rfl,rfl,_⟩:=hv';refine ⟨b,_,rfl,(l.drop off).take len,by rw [List.length_take,List.length_drop];omega,λj u hj=>?_,hG _ _ h3⟩;rw [List.getElem?_take] at hj;split at hj
  ·rw [List.getElem?_drop] at hj;rw [Nat.add_assoc];exact h2 _ _ hj
  ·cases hj
def fb (n:Nat) (_:World) (v:Value):Prop:=∃p c,v = .slice p n c
theorem fb.is {n:Nat} (h:fb n w v):(cC.one .s).is v:=by obtain ⟨p,c,rfl⟩:=h;exact ⟨⟨_,_,_,rfl⟩,λ_ h=>by cases h⟩
theorem Rw.sK {n:Nat} (h:Rw sz F n w v):fb n w v:=by obtain ⟨p,c,h1,_⟩:=h;exact ⟨p,c,h1⟩
theorem eH {n:Nat} (hT:P.underlying T=some (.slice e)) (hp:Im Φ p (fb n)) (hx:Φ x=Ni (n:Int)):aj Φ P ⟨0,[.fact p],[oN x],.quiet (aC T)⟩:=λX w ac o xs _ hm ha=>by
 unfold aC at hm;split at hm
 case h_2=>cases hm
 rename_i args ts ho;split at hm
 case isFalse=>cases hm
 rename_i hts;subst hts;simp only [Option.some.injEq] at hm;subst hm
 match hl:args.toList,ha with
 | [y],ha=>
  obtain ⟨s,c,hv⟩:=hp _ _ (ha.1 w (Off.refl _ _));have hargs:args = #[y]:=by apply Array.ext';simpa using hl
  subst hargs;refine ⟨.int .i64 n,w,?_,bH w none,cP (cY n) hx λ_ _=>rfl⟩;unfold execOp;simp [ho,resolve,invoke,builtin,Builtin.len_,run_underlying hT,hv,goInt]
theorem mM {n:Nat} (hp:Im Φ p (aA sz e F n)) (hq:Φ q=fb n):∀(w w':World) (v:Value),Φ p w v->Φ q w' v:=λw w' v h=>by rw [hq];obtain ⟨p,c,rfl,_⟩:=(hp w v h).arr;exact ⟨p,c,rfl⟩
def ub (op:BinOp) (a b:Int):Bool:=match op with
 | .lss=>decide (a<b)
 | .gtr=>decide (a > b)
 | .leq=>decide (a<=b)
 | .geq=>decide (a≥b)
 | .eql=>decide (a=b)
 | .neq=>decide (a≠b)
 | _=>false
theorem WW (a b:Int):(a == b)=decide (a=b):=by
 by_cases h:a=b
 ·simp [h]
 ·simp [h]
theorem bz {op:BinOp}{k:IntKind}{r:Bool} (h:ub op a b=r) (ho:op = .lss∨op = .gtr∨op = .leq∨op = .geq∨op = .eql∨op = .neq) (t:TypeId) (w:World):(binOp op t (.int k a) (.int k b)).run P w = .ok (.bool r) w:=by subst h;rcases ho with rfl | rfl | rfl | rfl | rfl | rfl <;> simp [binOp,Op.intCmp,ub,WW,bne]
theorem bO {l m:List WP} (h:p<l.length):ph (l ++ m) p=ph l p:=by simp only [ph,List.getD_eq_getElem?_getD,List.getElem?_append_left h]
theorem fO {n y:Nat}{J:List Nat} (hT:P.underlying T=some (.slice e)) (hp:Im Φ p (Arr sz F n)) (hq:Im Φ q (Ni (i:Int))) (hx:Φ x=Ptr sz (F i)) (hy:Φ y=At sz) (hz:dU P e=some sz:=by kernel_rfl) (hi:i<n:=by omega) :
  aj Φ P ⟨0,[.fact p,.fact q],[oP x],.joint J y (adK T)⟩:=WX hT hz hp hq hi hx hy J
end
theorem Rw.Is (sz:Nat) (F:PH) (n:Nat):∀w v,Rw sz F n w v->(cC.one .s).is v:=λ_ _ h=>h.is
theorem Rw.To (sz:Nat) (F:PH) (n:Nat){G:PH} (hf:∀i w v,i<n->F i w v->G i w v):∀w v,Rw sz F n w v->Rw sz G n w v:=λ_ _ h=>h.to hf
section
variable {P:Program}{Φ:PH}{p q x:Nat}{a b:Int}
theorem bK (hp:Im Φ p (Ni a)) (hq:Im Φ q (Ni b)) (h:a<b:=by omega):aj Φ P ⟨0,[.fact p,.fact q],oT,.quiet (am .lss)⟩:=eJ hp hq (bz (decide_eq_true h) (by simp))
theorem tlF (hp:Im Φ p (Ni a)) (hq:Im Φ q (Ni b)) (h:¬a<b:=by omega):aj Φ P ⟨0,[.fact p,.fact q],oF,.quiet (am .lss)⟩:=eJ hp hq (bz (decide_eq_false h) (by simp))
theorem sF (hp:Im Φ p (Ni a)) (hq:Im Φ q (Ni b)) (h:a≥b:=by omega):aj Φ P ⟨0,[.fact p,.fact q],oT,.quiet (am .geq)⟩:=eJ hp hq (bz (decide_eq_true h) (by simp))
theorem thF (hp:Im Φ p (Ni a)) (hq:Im Φ q (Ni b)) (h:¬a≥b:=by omega):aj Φ P ⟨0,[.fact p,.fact q],oF,.quiet (am .geq)⟩:=eJ hp hq (bz (decide_eq_false h) (by simp))
theorem qo (hp:Im Φ p (Ni a)) (h:a=b:=by omega):aj Φ P ⟨0,[.fact p,.lit (Ai b)],oT,.quiet (am .eql)⟩:=cn hp (bz (decide_eq_true h) (by simp))
theorem iL (hp:Im Φ p (Ni a)) (h:¬a=b:=by omega):aj Φ P ⟨0,[.fact p,.lit (Ai b)],oF,.quiet (am .eql)⟩:=cn hp (bz (decide_eq_false h) (by simp))
theorem gG (hp:Im Φ p (Ni a)) (h:a > b:=by omega):aj Φ P ⟨0,[.fact p,.lit (Ai b)],oT,.quiet (am .gtr)⟩:=cn hp (bz (decide_eq_true h) (by simp))
theorem lu (hp:Im Φ p (Ni a)) (h:¬a > b:=by omega):aj Φ P ⟨0,[.fact p,.lit (Ai b)],oF,.quiet (am .gtr)⟩:=cn hp (bz (decide_eq_false h) (by simp))
theorem WY (hp:Im Φ p (Ni a)) (h:a≥b:=by omega):aj Φ P ⟨0,[.fact p,.lit (Ai b)],oT,.quiet (am .geq)⟩:=cn hp (bz (decide_eq_true h) (by simp))
theorem chF (hp:Im Φ p (Ni a)) (h:¬a≥b:=by omega):aj Φ P ⟨0,[.fact p,.lit (Ai b)],oF,.quiet (am .geq)⟩:=cn hp (bz (decide_eq_false h) (by simp))
theorem aM {n:Nat} (hT:P.underlying T=some (.slice e)) (hp:Im Φ p (Rw sz F n)) (hx:Φ x=Nz n):aj Φ P ⟨0,[.fact p],[oN x],.quiet (aC T)⟩:=lF hT (λ_ _ h=>(hp _ _ h).arr) hx
theorem bw {n:Nat} (hT:P.underlying T=some (.slice e)) (hp:Im Φ p (Rw sz F n)) (hq:Im Φ q (Nz i)) (hx:Φ x=Ptr sz (F i)) (hz:dU P e=some sz:=by kernel_rfl) (hi:i<n:=by omega):aj Φ P ⟨0,[.fact p,.fact q],[oP x],.quiet (adK T)⟩:=lG hT hz (λ_ _ h=>(hp _ _ h).arr) hq hi hx
end
end Go.Proofs.YtlmanbjkkjfjgaaGreat.Sym
