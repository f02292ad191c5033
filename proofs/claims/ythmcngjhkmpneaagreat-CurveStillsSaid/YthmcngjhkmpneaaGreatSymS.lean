/- Contracts as calls of the symbolic walk: whole numbers, rationals, and the reference's. Contracts of chapter 2 and of the reference's whole numbers as calls of the symbolic walk. -/
import Derived.Test.YthmcngjhkmpneaaGreatSym
import Derived.Test.YthmcngjhkmpneaaGreatRats
namespace Go.Proofs.YthmcngjhkmpneaaGreat.Sym
open Go.RowKit
def ph (L:List (World->Value->Prop)) (p:Nat):World->Value->Prop:=L.getD p (fun _ _=>True)
def iS:aR:=.agg [.b,.s]
def dS:aR:=.agg [.s,.b]
def qS:aR:=.agg [.b,.s,.b,.s]
def sS:aR:=.agg [.s,.b,.s,.b]
abbrev If (z:Nat->Int) (k i:Nat) (w:World) (v:Value):Prop:=aj w v (z i) k
abbrev Nf (z:Nat->Int) (k i:Nat) (w:World) (v:Value):Prop:=ak w v (z i) k
abbrev Df (z:Nat->Rat) (k i:Nat) (w:World) (v:Value):Prop:=ah w v (z i) k
abbrev Iw (z:Int) (k:Nat) (w:World) (v:Value):Prop:=aj w v z k
abbrev Nw (z:Int) (k:Nat) (w:World) (v:Value):Prop:=ak w v z k
abbrev Dw (z:Rat) (k:Nat) (w:World) (v:Value):Prop:=ah w v z k
abbrev Ni (z:Int) (_:World) (v:Value):Prop:=v = .int .i64 z
abbrev Nz (z:Nat) (_:World) (v:Value):Prop:=v = .int .i64 (z:Int)
abbrev Nu (z:Int) (_:World) (v:Value):Prop:=v = .int .u64 z
section
variable {P:Program}{Φ:Nat->World->Value->Prop}
theorem all_nil:∀t,t ∈ ([]:List Site)->ai Φ P t:=fun _ h=>by cases h
theorem all_cons {s:Site}{l:List Site} (h:ai Φ P s) (hl:∀t,t ∈ l->ai Φ P t):∀t,t ∈ s :: l->ai Φ P t:=fun t ht=>by
 rcases List.mem_cons.1 ht with rfl | ht
 ·exact h
 ·exact hl t ht
def post (Φ:Nat->World->Value->Prop) (X:Nat->Prop) (outs:List Out) (aJ:Bool) (w:World) (e:Ending) (w':World):Prop:=
 w.grownBy w' none∧∃us:List Value,e = .returned (if aJ then .tuple us.toArray else us.headD undef)∧bc Φ X w' outs us
theorem da {f:FuncId}{a:Arg}{outs:List Out}{aJ:Bool} (h:∀X w v,a.ok Φ X w v->Calls P f #[v] w (post Φ X outs aJ w)):ai Φ P ⟨f,[a],outs,aJ⟩:=fun X w vs _ ha=>by
 match vs,ha with
 | [v],ha=>exact h X w v ha.1
theorem dj {f:FuncId}{a b:Arg}{outs:List Out}{aJ:Bool} (h:∀X w v u,a.ok Φ X w v->b.ok Φ X w u->Calls P f #[v,u] w (post Φ X outs aJ w)):ai Φ P ⟨f,[a,b],outs,aJ⟩:=fun X w vs _ ha=>by
 match vs,ha with
 | [v,u],ha=>exact h X w v u ha.1 ha.2.1
theorem get {X:Nat->Prop}{w:World}{p:Nat}{v:Value} (h:(Arg.fact p).ok Φ X w v):Φ p w v:=h w (Off.refl _ _)
theorem o1 {F:World->Value->Prop}{X:Nat->Prop}{w:World}{v:Value}{sh:aR}{p:Nat} (hm:∀w w1 v,Kp w w1->F w v->F w1 v) (hp:Φ p=F) (hs:sh.is v) (h:F w v) :
  sh.is v∧∀q,q ∈ [(0,0,p)]->∀w1,Off X w w1->Φ q.2.2 w1 (aN q.1 q.2.1 v):=⟨hs,fun q hq w1 hw=>by
 simp only [List.mem_singleton] at hq
 subst hq
 show Φ p w1 v
 rw [hp];exact hm w w1 v hw.1 h⟩
theorem o0 {X:Nat->Prop}{w:World}{v:Value}{sh:aR} (hs:sh.is v):sh.is v∧∀q,q ∈ ([]:List (Nat×Nat×Nat))->∀w1,Off X w w1->Φ q.2.2 w1 (aN q.1 q.2.1 v):=⟨hs,fun q hq=>by cases hq⟩
theorem lA {b:Bool}{p:Option Addr}{n c:Nat}:iS.is (.agg #[.bool b,.slice p n c]):=⟨[.bool b,.slice p n c],rfl,⟨_,rfl⟩,⟨_,_,_,rfl⟩,trivial⟩
theorem zN {b:Bool}{p:Option Addr}{n c:Nat}:dS.is (.agg #[.slice p n c,.bool b]):=⟨[.slice p n c,.bool b],rfl,⟨_,_,_,rfl⟩,⟨_,rfl⟩,trivial⟩
theorem jB {b b':Bool}{p p':Option Addr}{n c n' c':Nat}:qS.is (.agg #[.bool b,.slice p n c,.bool b',.slice p' n' c']):=⟨[.bool b,.slice p n c,.bool b',.slice p' n' c'],rfl,⟨_,rfl⟩,⟨_,_,_,rfl⟩,⟨_,rfl⟩,⟨_,_,_,rfl⟩,trivial⟩
theorem PP {b b':Bool}{p p':Option Addr}{n c n' c':Nat}:sS.is (.agg #[.slice p n c,.bool b,.slice p' n' c',.bool b']):=⟨[.slice p n c,.bool b,.slice p' n' c',.bool b'],rfl,⟨_,_,_,rfl⟩,⟨_,rfl⟩,⟨_,_,_,rfl⟩,⟨_,rfl⟩,trivial⟩
def QV (w:World) (v:Value) (z y:Int) (k:Nat):Prop:=∃b p n c b' p' n' c',v = .agg #[.bool b,.slice p n c,.bool b',.slice p' n' c']∧aj w (.agg #[.bool b,.slice p n c]) z k∧aj w (.agg #[.bool b',.slice p' n' c']) y k
theorem QV.kp {w w':World}{v:Value}{z y:Int}{k:Nat} (h:QV w v z y k) (g:Kp w w'):QV w' v z y k:=by
 obtain ⟨b,p,n,c,b',p',n',c',h1,h2,h3⟩:=h
 exact ⟨b,p,n,c,b',p',n',c',h1,h2.kp g,h3.kp g⟩
theorem QV.q {w:World}{v:Value}{z y:Int}{k:Nat} (h:QV w v z y k):bS w v (aD z y) k:=by
 obtain ⟨b,p,n,c,b',p',n',c',h1,h2,h3⟩:=h
 exact ⟨b,p,n,c,b',p',n',c',z,y,h1,h2,h3,rfl⟩
def aG (w:World) (v:Value) (b:Bool) (xs:List Nat):Prop:=∃s,v = .agg #[.bool b,s]∧Sl w .u32 s xs∧All 4294967296 xs
def bE (w:World) (v:Value) (b:Bool) (xs:List Nat) (b':Bool) (ys:List Nat):Prop:=∃s s',v = .agg #[.bool b,s,.bool b',s']∧Sl w .u32 s xs∧All 4294967296 xs∧Sl w .u32 s' ys∧All 4294967296 ys
theorem aG.kp {w w':World}{v:Value}{b:Bool}{xs:List Nat} (h:aG w v b xs) (g:Kp w w'):aG w' v b xs:=by
 obtain ⟨s,h1,h2,h3⟩:=h
 exact ⟨s,h1,h2.kp g,h3⟩
theorem bE.kp {w w':World}{v:Value}{b b':Bool}{xs ys:List Nat} (h:bE w v b xs b' ys) (g:Kp w w'):bE w' v b xs b' ys:=by
 obtain ⟨s,s',h1,h2,h3,h4,h5⟩:=h
 exact ⟨s,s',h1,h2.kp g,h3,h4.kp g,h5⟩
theorem aG.is {w:World}{v:Value}{b:Bool}{xs:List Nat} (h:aG w v b xs):iS.is v:=by
 obtain ⟨s,rfl,h2,_⟩:=h
 obtain ⟨p,c,rfl,_⟩:=h2
 exact lA
theorem bE.is {w:World}{v:Value}{b b':Bool}{xs ys:List Nat} (h:bE w v b xs b' ys):qS.is v:=by
 obtain ⟨s,s',rfl,h2,_,h4,_⟩:=h
 obtain ⟨p,c,rfl,_⟩:=h2
 obtain ⟨p',c',rfl,_⟩:=h4
 exact jB
theorem QV.fst {w:World}{v:Value}{z y:Int}{k:Nat} (h:QV w v z y k):aj w (aN 0 2 v) z k:=by obtain ⟨_,_,_,_,_,_,_,_,rfl,h1,_⟩:=h;exact h1
theorem QV.snd {w:World}{v:Value}{z y:Int}{k:Nat} (h:QV w v z y k):aj w (aN 2 2 v) y k:=by obtain ⟨_,_,_,_,_,_,_,_,rfl,_,h2⟩:=h;exact h2
theorem ah.fst {w:World}{v:Value}{q:Rat}{k:Nat} (h:ah w v q k):ae w (aN 0 2 v) q.num k:=by obtain ⟨_,_,_,_,_,_,_,_,rfl,h1,_⟩:=h;exact h1
theorem ah.snd {w:World}{v:Value}{q:Rat}{k:Nat} (h:ah w v q k):ae w (aN 2 2 v) (q.den:Int) k:=by obtain ⟨_,_,_,_,_,_,_,_,rfl,_,h2⟩:=h;exact h2
theorem bS.qv {w:World}{v:Value}{q:Rat}{k:Nat} (h:bS w v q k):∃z y,QV w v z y k∧aD z y=q:=by
 obtain ⟨b,p,n,c,b',p',n',c',z,y,h1,h2,h3,h4⟩:=h
 exact ⟨z,y,⟨b,p,n,c,b',p',n',c',h1,h2,h3⟩,h4⟩
section
variable {z y:Int}{q:Rat}{k:Nat}
theorem iI:∀w v,aj w v z k->aj w v z k:=fun _ _ h=>h
theorem nI:∀w v,ak w v z k->aj w v z k:=fun _ _ h=>h.i
theorem nN:∀w v,ak w v z k->ak w v z k:=fun _ _ h=>h
theorem dD:∀w v,ae w v z k->ae w v z k:=fun _ _ h=>h
theorem qQ:∀w v,bS w v q k->bS w v q k:=fun _ _ h=>h
theorem pQ:∀w v,bk w v q k->bS w v q k:=fun _ _ h=>h.q
theorem vQ:∀w v,QV w v z y k->bS w v (aD z y) k:=fun _ _ h=>h.q
theorem pP:∀w v,bk w v q k->bk w v q k:=fun _ _ h=>h
theorem tS:∀w v,ah w v q k->ah w v q k:=fun _ _ h=>h
end
section
variable {X:Nat->Prop}{w w':World}{e:Ending}{z y:Int}{t:Rat}{k p p1 p2:Nat}
theorem zO (hp:Φ p=fun w v=>ak w v z k){v:Value}{b:Bool}{s:Option Addr}{n c:Nat} (hv:v = .agg #[.bool b,.slice s n c]) (h:ak w v z k):iS.is v∧∀q,q ∈ [(0,0,p)]->∀w1,Off X w w1->Φ q.2.2 w1 (aN q.1 q.2.1 v):=
 o1 (F:=fun w v=>ak w v z k) (fun _ _ _ g h=>ak.kp h g) hp (hv▸lA) h
theorem yC (hp:Φ p=fun w v=>aj w v z k){v:Value}{b:Bool}{s:Option Addr}{n c:Nat} (hv:v = .agg #[.bool b,.slice s n c]) (h:aj w v z k):iS.is v∧∀q,q ∈ [(0,0,p)]->∀w1,Off X w w1->Φ q.2.2 w1 (aN q.1 q.2.1 v):=
 o1 (F:=fun w v=>aj w v z k) (fun _ _ _ g h=>aj.kp h g) hp (hv▸lA) h
theorem PQ (hp:Φ p=fun w v=>ae w v z k){v:Value}{b:Bool}{s:Option Addr}{n c:Nat} (hv:v = .agg #[.slice s n c,.bool b]) (h:ae w v z k):dS.is v∧∀q,q ∈ [(0,0,p)]->∀w1,Off X w w1->Φ q.2.2 w1 (aN q.1 q.2.1 v):=
 o1 (F:=fun w v=>ae w v z k) (fun _ _ _ g h=>ae.kp h g) hp (hv▸zN) h
theorem bk.is {w:World}{v:Value}{q:Rat}{k:Nat} (h:bk w v q k):qS.is v:=by obtain ⟨_,_,_,_,_,_,_,_,rfl,_⟩:=h;exact jB
theorem QV.is {w:World}{v:Value}{z y:Int}{k:Nat} (h:QV w v z y k):qS.is v:=by obtain ⟨_,_,_,_,_,_,_,_,rfl,_⟩:=h;exact jB
theorem bS.is {w:World}{v:Value}{q:Rat}{k:Nat} (h:bS w v q k):qS.is v:=by obtain ⟨_,_,_,_,_,_,_,_,_,_,rfl,_⟩:=h;exact jB
theorem ah.is {w:World}{v:Value}{q:Rat}{k:Nat} (h:ah w v q k):sS.is v:=by obtain ⟨_,_,_,_,_,_,_,_,rfl,_⟩:=h;exact PP
theorem aj.is {w:World}{v:Value}{z:Int}{k:Nat} (h:aj w v z k):iS.is v:=by
 obtain ⟨b,p,n,c,rfl,_⟩:=h.open;exact lA
theorem ak.is {w:World}{v:Value}{z:Int}{k:Nat} (h:ak w v z k):iS.is v:=aj.is h.i
theorem ae.is {w:World}{v:Value}{z:Int}{k:Nat} (h:ae w v z k):dS.is v:=by
 obtain ⟨p,c,rfl,_⟩:=h;exact zN
theorem PR (hp:Φ p=fun w v=>bk w v t k) (h1:Φ p1=fun w v=>ak w v t.num k) (h2:Φ p2=fun w v=>ak w v (t.den:Int) k){v:Value} (h:bk w v t k) :
  qS.is v∧∀q,q ∈ [(0,0,p),(0,2,p1),(2,2,p2)]->∀w1,Off X w w1->Φ q.2.2 w1 (aN q.1 q.2.1 v):=by
 refine ⟨bk.is h,fun q hq w1 hw=>?_⟩
 have h':=h.kp hw.1
 obtain ⟨b,s,n,c,b',s',n',c',rfl,a1,a2⟩:=id h'
 simp only [List.mem_cons,List.not_mem_nil,or_false] at hq
 rcases hq with rfl | rfl | rfl
 ·show Φ p w1 _;rw [hp];exact h'
 ·show Φ p1 w1 _;rw [h1];exact a1
 ·show Φ p2 w1 _;rw [h2];exact a2
theorem ah.n {w:World}{v:Value}{q:Rat}{k:Nat} (h:ah w v q k):∃p n c b p' n' c' b',v = .agg #[.slice p n c,.bool b,.slice p' n' c',.bool b']∧ae w (.agg #[.slice p n c,.bool b]) q.num k∧ae w (.agg #[.slice p' n' c',.bool b']) (q.den:Int) k:=h
theorem PS (hp:Φ p=fun w v=>ah w v t k) (h1:Φ p1=fun w v=>ae w v t.num k) (h2:Φ p2=fun w v=>ae w v (t.den:Int) k){v:Value} (h:ah w v t k) :
  sS.is v∧∀q,q ∈ [(0,0,p),(0,2,p1),(2,2,p2)]->∀w1,Off X w w1->Φ q.2.2 w1 (aN q.1 q.2.1 v):=by
 refine ⟨ah.is h,fun q hq w1 hw=>?_⟩
 have h':=h.kp hw.1
 obtain ⟨b,s,n,c,b',s',n',c',rfl,a1,a2⟩:=id h'
 simp only [List.mem_cons,List.not_mem_nil,or_false] at hq
 rcases hq with rfl | rfl | rfl
 ·show Φ p w1 _;rw [hp];exact h'
 ·show Φ p1 w1 _;rw [h1];exact a1
 ·show Φ p2 w1 _;rw [h2];exact a2
theorem fF (hp:Φ p=fun w v=>ak w v z k) (h:fZ w z k e w'):post Φ X [⟨iS,[(0,0,p)]⟩] false w e w':=by
 obtain ⟨b,s,n,c,rfl,h1,h2⟩:=h
 exact ⟨h2,[_],rfl,zO hp rfl h1,trivial⟩
theorem PT (hp:Φ p=fun w v=>ak w v z k) (h:vw w z k e w'):post Φ X [⟨iS,[(0,0,p)]⟩,⟨.one (.lit (.ci .i64 0)),[]⟩] true w e w':=by
 obtain ⟨b,s,n,c,rfl,h1,h2⟩:=h
 exact ⟨h2,[_,_],rfl,zO hp rfl h1,o0 ⟨rfl,fun _ h=>by cases h⟩,trivial⟩
theorem gU (hp:Φ p=fun w v=>ae w v z k) (h:ei w z k e w'):post Φ X [⟨dS,[(0,0,p)]⟩] false w e w':=by
 obtain ⟨s,n,c,b,rfl,h1,h2⟩:=h
 exact ⟨h2,[_],rfl,PQ hp rfl h1,trivial⟩
theorem pp (hp:Φ p=fun w v=>bk w v t k) (q1:Φ p1=fun w v=>ak w v t.num k) (q2:Φ p2=fun w v=>ak w v (t.den:Int) k) (h:gS w t k e w'):post Φ X [⟨qS,[(0,0,p),(0,2,p1),(2,2,p2)]⟩] false w e w':=by
 obtain ⟨b,s,n,c,b',s',n',c',rfl,h1,h2⟩:=h
 exact ⟨h2,[_],rfl,PR hp q1 q2 h1,trivial⟩
theorem Oo (hp:Φ p=fun w v=>bk w v t k) (q1:Φ p1=fun w v=>ak w v t.num k) (q2:Φ p2=fun w v=>ak w v (t.den:Int) k) (h:uI w t k e w'):post Φ X [⟨qS,[(0,0,p),(0,2,p1),(2,2,p2)]⟩,⟨.one (.lit (.ci .i64 0)),[]⟩] true w e w':=by
 obtain ⟨b,s,n,c,b',s',n',c',rfl,h1,h2⟩:=h
 exact ⟨h2,[_,_],rfl,PR hp q1 q2 h1,o0 ⟨rfl,fun _ h=>by cases h⟩,trivial⟩
theorem iF (hp:Φ p=fun w v=>ah w v t k) (q1:Φ p1=fun w v=>ae w v t.num k) (q2:Φ p2=fun w v=>ae w v (t.den:Int) k) (h:fo w t k e w'):post Φ X [⟨sS,[(0,0,p),(0,2,p1),(2,2,p2)]⟩] false w e w':=by
 obtain ⟨b,s,n,c,b',s',n',c',rfl,h1,h2⟩:=h
 exact ⟨h2,[_],rfl,PS hp q1 q2 h1,trivial⟩
theorem zP {a:Atom} (h:e = .returned (a.ev a8)∧w.grownBy w' none) (hn:∀l,a.ev a8≠.agg l):post Φ X [⟨.one (.lit a),[]⟩] false w e w':=by
 obtain ⟨rfl,h2⟩:=h
 exact ⟨h2,[_],rfl,o0 ⟨rfl,hn⟩,trivial⟩
theorem nt {b:Bool} (h:e = .returned (.bool b)∧w.grownBy w' none):post Φ X [⟨.one (.lit (.cb b)),[]⟩] false w e w':=zP h (fun _ h=>by cases h)
theorem JP {x:Int} (h:e = .returned (.int .i64 x)∧w.grownBy w' none):post Φ X [⟨.one (.lit (.ci .i64 x)),[]⟩] false w e w':=zP h (fun _ h=>by cases h)
end
inductive Pm where
 | fact (p:Nat) (sh:aR) | lit (a:Atom) | sub (p:Nat) (sh:aR) (fs:List (Nat×Nat×Nat)) | parts (sh:aR) (fs:List (Nat×Nat×Nat))
def Pm.arg:Pm->Arg
 | .fact p _=>.fact p
 | .sub p _ _=>.fact p
 | .lit a=>.lit a
 | .parts sh fs=>.parts sh fs
def Pm.out:Pm->Out
 | .fact p sh=>⟨sh,[(0,0,p)]⟩
 | .sub p sh fs=>⟨sh,(0,0,p) :: fs⟩
 | .lit a=>⟨.one (.lit a),[]⟩
 | .parts sh fs=>⟨sh,fs⟩
def lV (Φ:Nat->World->Value->Prop) (p:Nat):List (Nat×Nat×Nat)->Prop
 | []=>True
 | q :: l=>(∀w v,Φ p w v->Φ q.2.2 w (aN q.1 q.2.1 v))∧lV Φ p l
theorem lV.at {p:Nat}:∀{l:List (Nat×Nat×Nat)},lV Φ p l->∀q,q ∈ l->∀w v,Φ p w v->Φ q.2.2 w (aN q.1 q.2.1 v)
 | _ :: l,h,q,hq=>by
  rcases List.mem_cons.1 hq with rfl | hq
  ·exact h.1
  ·exact lV.at h.2 q hq
def Pm.fine (Φ:Nat->World->Value->Prop):Pm->Prop
 | .fact p sh=>∀w v,Φ p w v->sh.is v
 | .sub p sh fs=>(∀w v,Φ p w v->sh.is v)∧lV Φ p fs
 | .lit a=>∀l,a.ev a8≠.agg l
 | .parts _ _=>True
def zQ (Φ:Nat->World->Value->Prop):List Pm->Prop
 | []=>True
 | x :: xs=>x.fine Φ∧zQ Φ xs
theorem aK:∀(l:List Pm) (_:zQ Φ l) (X:Nat->Prop) (w:World) (vs:List Value),(∀k,X k->k<w.heap.size)->bF Φ X w (l.map Pm.arg) vs->bc Φ X w (l.map Pm.out) vs
 | [],_,_,_,[],_,_=>trivial
 | x :: xs,hf,X,w,v :: vs,hX,ha=>by
  refine ⟨?_,aK xs hf.2 X w vs hX ha.2⟩
  cases x with
  | fact p sh=>
   refine ⟨hf.1 w v (get ha.1),fun q hq w1 hw=>?_⟩
   have hq':q=(0,0,p):=by simpa [Pm.out] using hq
   subst hq'
   exact ha.1 w1 hw
  | sub p sh fs=>
   refine ⟨hf.1.1 w v (get ha.1),fun q hq w1 hw=>?_⟩
   rcases List.mem_cons.1 hq with rfl | hq
   ·exact ha.1 w1 hw
   ·exact hf.1.2.at q hq w1 v (ha.1 w1 hw)
  | lit a=>
   have h0:v=a.ev a8:=ha.1
   subst h0
   exact o0 ⟨rfl,hf.1⟩
  | parts sh fs=>exact ha.1
 | [],_,_,_,_ :: _,_,h=>h.elim
 | _ :: _,_,_,_,[],_,h=>h.elim
theorem QV.join {w:World}{v:Value}{z y:Int}{i j k:Nat} (hs:qS.is v) (h1:aj w (aN 0 2 v) z i) (h2:aj w (aN 2 2 v) y j) (hi:i<=k) (hj:j<=k):QV w v z y k:=by
 obtain ⟨vs,rfl,h⟩:=hs
 match vs,h with
 | [v0,v1,v2,v3],h=>
  obtain ⟨⟨b,rfl⟩,⟨p,n,c,rfl⟩,⟨b',rfl⟩,⟨p',n',c',rfl⟩,_⟩:=h
  exact ⟨b,p,n,c,b',p',n',c',rfl,h1.more hi,h2.more hj⟩
section
variable {p p1 p2 i j k:Nat}{z y:Int}
end
section
variable {f:FuncId}{ar:List Arg}{w:World}{vs:List Value}{p k:Nat}{z:Int}{t:Rat}
theorem lm {sh:aR}{fs:List (Nat×Nat×Nat)} (h:ai Φ P ⟨f,ar,[⟨sh,fs⟩],false⟩) (ha:bF Φ (fun _=>False) w ar vs){R:Ending->World->Prop}
  (hR:∀u w',w.grownBy w' none->sh.is u->(∀q,q ∈ fs->Φ q.2.2 w' (aN q.1 q.2.1 u))->R (.returned u) w'):Calls P f vs.toArray w R:=by
 refine (h (fun _=>False) w vs (fun _ h=>h.elim) ha).mono fun e w' ⟨hg,us,he,ho⟩=>?_
 match us,ho with
 | [u],ho=>subst he;exact hR u w' hg ho.1.1 (fun q hq=>ho.1.2 q hq w' (Off.refl _ _))
theorem rC {sh sh':aR}{fs fs':List (Nat×Nat×Nat)} (h:ai Φ P ⟨f,ar,[⟨sh,fs⟩,⟨sh',fs'⟩],true⟩) (ha:bF Φ (fun _=>False) w ar vs){R:Ending->World->Prop}
  (hR:∀u u' w',w.grownBy w' none->sh.is u->(∀q,q ∈ fs->Φ q.2.2 w' (aN q.1 q.2.1 u))->sh'.is u'->(∀q,q ∈ fs'->Φ q.2.2 w' (aN q.1 q.2.1 u'))->R (.returned (.tuple #[u,u'])) w'):Calls P f vs.toArray w R:=by
 refine (h (fun _=>False) w vs (fun _ h=>h.elim) ha).mono fun e w' ⟨hg,us,he,ho⟩=>?_
 match us,ho with
 | [u,u'],ho=>subst he;exact hR u u' w' hg ho.1.1 (fun q hq=>ho.1.2 q hq w' (Off.refl _ _)) ho.2.1.1 (fun q hq=>ho.2.1.2 q hq w' (Off.refl _ _))
theorem nw (h:ai Φ P ⟨f,ar,[⟨qS,[(0,0,p)]⟩],false⟩) (hp:Φ p=fun w v=>bk w v t k) (ha:bF Φ (fun _=>False) w ar vs):Calls P f vs.toArray w (gS w t k):=
 lm h ha fun u w' hg _ hf=>by
  have h1:bk w' u t k:=by have:=hf (0,0,p) (by simp);rw [hp] at this;exact this
  obtain ⟨b,s,n,c,b',s',n',c',rfl,_⟩:=id h1
  exact ⟨b,s,n,c,b',s',n',c',rfl,h1,hg⟩
theorem Ow (h:ai Φ P ⟨f,ar,[⟨qS,[(0,0,p)]⟩,⟨.one (.lit (.ci .i64 0)),[]⟩],true⟩) (hp:Φ p=fun w v=>bk w v t k) (ha:bF Φ (fun _=>False) w ar vs):Calls P f vs.toArray w (uI w t k):=
 rC h ha fun u u' w' hg _ hf h' _=>by
  have h1:bk w' u t k:=by have:=hf (0,0,p) (by simp);rw [hp] at this;exact this
  obtain ⟨b,s,n,c,b',s',n',c',rfl,_⟩:=id h1
  obtain rfl:u' = .int .i64 0:=h'.1
  exact ⟨b,s,n,c,b',s',n',c',rfl,h1,hg⟩
theorem eV (h:ai Φ P ⟨f,ar,[⟨sS,[(0,0,p)]⟩],false⟩) (hp:Φ p=fun w v=>ah w v t k) (ha:bF Φ (fun _=>False) w ar vs):Calls P f vs.toArray w (fo w t k):=
 lm h ha fun u w' hg _ hf=>by
  have h1:ah w' u t k:=by have:=hf (0,0,p) (by simp);rw [hp] at this;exact this
  obtain ⟨s,n,c,b,s',n',c',b',rfl,_⟩:=id h1
  exact ⟨s,n,c,b,s',n',c',b',rfl,h1,hg⟩
theorem Qe {a:Atom} (h:ai Φ P ⟨f,ar,[⟨.one (.lit a),[]⟩],false⟩) (ha:bF Φ (fun _=>False) w ar vs):Calls P f vs.toArray w (fun e w'=>e = .returned (a.ev a8)∧w.grownBy w' none):=
 lm h ha fun u w' hg hs _=>by
  obtain rfl:u=a.ev a8:=hs.1
  exact ⟨rfl,hg⟩
end
theorem dR {o o':Out} (h:∀X w v,(o.sh.is v∧∀q,q ∈ o.fs->∀w1,Off X w w1->Φ q.2.2 w1 (aN q.1 q.2.1 v))->o'.sh.is v∧∀q,q ∈ o'.fs->∀w1,Off X w w1->Φ q.2.2 w1 (aN q.1 q.2.1 v)):∀(X:Nat->Prop) (w:World) (us:List Value),bc Φ X w [o] us->bc Φ X w [o'] us:=fun X w us hu=>by
 match us,hu with
 | [u],hu=>exact ⟨h X w u hu.1,trivial⟩
theorem rA {o o' p p':Out} (h:∀X w v,(o.sh.is v∧∀q,q ∈ o.fs->∀w1,Off X w w1->Φ q.2.2 w1 (aN q.1 q.2.1 v))->o'.sh.is v∧∀q,q ∈ o'.fs->∀w1,Off X w w1->Φ q.2.2 w1 (aN q.1 q.2.1 v))
  (h2:∀X w v,(p.sh.is v∧∀q,q ∈ p.fs->∀w1,Off X w w1->Φ q.2.2 w1 (aN q.1 q.2.1 v))->p'.sh.is v∧∀q,q ∈ p'.fs->∀w1,Off X w w1->Φ q.2.2 w1 (aN q.1 q.2.1 v)):∀(X:Nat->Prop) (w:World) (us:List Value),bc Φ X w [o,p] us->bc Φ X w [o',p'] us:=fun X w us hu=>by
 match us,hu with
 | [u,v],hu=>exact ⟨h X w u hu.1,h2 X w v hu.2.1,trivial⟩
theorem weak {sh:aR}{p x:Nat} (h:∀w v,Φ p w v->Φ x w v) (X:Nat->Prop) (w:World) (v:Value) (hv:sh.is v∧∀q,q ∈ [(0,0,p)]->∀w1,Off X w w1->Φ q.2.2 w1 (aN q.1 q.2.1 v)):sh.is v∧∀q,q ∈ [(0,0,x)]->∀w1,Off X w w1->Φ q.2.2 w1 (aN q.1 q.2.1 v):=
 ⟨hv.1,fun q hq w1 hw=>by
  simp only [List.mem_singleton] at hq
  subst hq
  exact h w1 _ (hv.2 (0,0,p) (by simp) w1 hw)⟩
theorem halves {sh:aR}{p1 p2 x:Nat} (h:∀w v,sh.is v->Φ p1 w (aN 0 2 v)->Φ p2 w (aN 2 2 v)->Φ x w v) (X:Nat->Prop) (w:World) (v:Value) (hv:sh.is v∧∀q,q ∈ [(0,2,p1),(2,2,p2)]->∀w1,Off X w w1->Φ q.2.2 w1 (aN q.1 q.2.1 v)):sh.is v∧∀q,q ∈ [(0,0,x)]->∀w1,Off X w w1->Φ q.2.2 w1 (aN q.1 q.2.1 v):=
 ⟨hv.1,fun q hq w1 hw=>by
  simp only [List.mem_singleton] at hq
  subst hq
  exact h w1 _ hv.1 (hv.2 (0,2,p1) (by simp) w1 hw) (hv.2 (2,2,p2) (by simp) w1 hw)⟩
theorem bk.join {w:World}{v:Value}{t:Rat}{k:Nat} (hs:qS.is v) (h1:ak w (aN 0 2 v) t.num k) (h2:ak w (aN 2 2 v) (t.den:Int) k):bk w v t k:=by
 obtain ⟨vs,rfl,h⟩:=hs
 match vs,h with
 | [v0,v1,v2,v3],h=>
  obtain ⟨⟨b,rfl⟩,⟨p,n,c,rfl⟩,⟨b',rfl⟩,⟨p',n',c',rfl⟩,_⟩:=h
  exact ⟨b,p,n,c,b',p',n',c',rfl,h1,h2⟩
theorem ah.join {w:World}{v:Value}{t:Rat}{k:Nat} (hs:sS.is v) (h1:ae w (aN 0 2 v) t.num k) (h2:ae w (aN 2 2 v) (t.den:Int) k):ah w v t k:=by
 obtain ⟨vs,rfl,h⟩:=hs
 match vs,h with
 | [v0,v1,v2,v3],h=>
  obtain ⟨⟨p,n,c,rfl⟩,⟨b,rfl⟩,⟨p',n',c',rfl⟩,⟨b',rfl⟩,_⟩:=h
  exact ⟨p,n,c,b,p',n',c',b',rfl,h1,h2⟩
theorem Fa {f:FuncId}{ar:List Arg} (h:ai Φ P ⟨f,ar,[⟨.one (.lit (.cb true)),[]⟩],false⟩){w:World}{vs:List Value} (ha:bF Φ (fun _=>False) w ar vs):Calls P f vs.toArray w (fun e w'=>e = .returned (.bool true)∧w.grownBy w' none):=by
 refine (h (fun _=>False) w vs (fun _ h=>h.elim) ha).mono fun e w' ⟨hg,us,he,ho⟩=>?_
 match us,ho with
 | [u],ho=>
  obtain ⟨⟨⟨h1,_⟩,_⟩,_⟩:=ho
  have h1':u = .bool true:=h1
  subst h1'
  exact ⟨he,hg⟩
theorem cW {p:Nat}{F:World->Value->Prop}{w:World}{v:Value} (hp:Φ p=F) (hm:∀w w1 v,Kp w w1->F w v->F w1 v) (h:F w v):(Arg.fact p).ok Φ (fun _=>False) w v:=fun w1 hw=>by rw [hp];exact hm w w1 v hw.1 h
end
section
variable {Φ:PH}
theorem jr {p q x i j:Nat}{z:Int}{y:Int}{t:Int} (hp:∀w v,Φ p w v->aj w v z i) (hq:∀w v,Φ q w v->aj w v y j) (hx:Φ x=Nw t (i+j)) (hi:i+j<=1000000) (ht:z*y=t):ai Φ Tryz.prog ⟨44,[.fact p,.fact q],[⟨iS,[(0,0,x)]⟩],false⟩:=
 dj fun _ _ _ _ h0 h1=>(Em (hp _ _ (get h0)) (hq _ _ (get h1)) hi ht).mono fun _ _ h=>fF hx h
theorem Jg {p q x i j:Nat}{z:Int}{y:Int}{t:Int} (hp:∀w v,Φ p w v->aj w v z i) (hq:∀w v,Φ q w v->aj w v y j) (hx:Φ x=Nw t (i+j+1)) (hi:i+j<=1000000) (ht:z+y=t):ai Φ Tryz.prog ⟨67,[.fact p,.fact q],[⟨iS,[(0,0,x)]⟩],false⟩:=
 dj fun _ _ _ _ h0 h1=>(En (hp _ _ (get h0)) (hq _ _ (get h1)) hi ht).mono fun _ _ h=>fF hx h
theorem rB {p x i:Nat}{z:Int}{t:Int} (hp:∀w v,Φ p w v->aj w v z i) (hx:Φ x=Nw t i) (hi:i<=1000000) (ht : -z=t):ai Φ Tryz.prog ⟨106,[.fact p],[⟨iS,[(0,0,x)]⟩],false⟩:=
 da fun _ _ _ h0=>(Ep (hp _ _ (get h0)) hi ht).mono fun _ _ h=>fF hx h
theorem uD {p x i:Nat}{z:Int}{t:Int} (hp:∀w v,Φ p w v->aj w v z i) (hx:Φ x=Nw t i) (hi:i<=1000000) (ht:z=t):ai Φ Tryz.prog ⟨93,[.fact p],[⟨iS,[(0,0,x)]⟩],false⟩:=
 da fun _ _ _ h0=>(ht▸Er (hp _ _ (get h0)) hi).mono fun _ _ h=>fF hx h
theorem je {p q x i j:Nat}{z:Int}{y:Int}{t:Int} (hp:∀w v,Φ p w v->aj w v z i) (hq:∀w v,Φ q w v->aj w v y j) (hx:Φ x=Nw t i) (hi:i+j<=900000) (h0':y≠0) (h1':y∣z) (ht:z / y=t):ai Φ Tryz.prog ⟨128,[.fact p,.fact q],[⟨iS,[(0,0,x)]⟩,oL (.ci .i64 0)],true⟩:=
 dj fun _ _ _ _ h0 h1=>(Et (hp _ _ (get h0)) (hq _ _ (get h1)) hi h0' h1' ht).mono fun _ _ h=>PT hx h
theorem JE {p x:Nat}{t z:Int} (hp:∀w v,Φ p w v->v = .int .i64 z) (hx:Φ x=Nw t 2) (h1 : -9223372036854775808<=z) (h2:z<=9223372036854775807) (ht:z=t):ai Φ Tryz.prog ⟨75,[.fact p],[⟨iS,[(0,0,x)]⟩],false⟩:=
 da fun _ w v h0=>by
  obtain rfl:=hp _ _ (get h0)
  exact (vt z h1 h2 ht).mono fun _ _ h=>fF hx h
theorem PU {X:Nat->Prop}{w w':World}{e:Ending}{x:Nat}{t:Int} (hx:Φ x=Ni t) (h:e = .returned (.int .i64 t)∧w.grownBy w' none):post Φ X [oN x] false w e w':=by
 obtain ⟨rfl,h2⟩:=h
 exact ⟨h2,[_],rfl,o1 (F:=Ni t) (fun _ _ _ _ h=>h) hx ⟨⟨_,rfl⟩,fun _ h=>by cases h⟩ rfl,trivial⟩
theorem ir {p q x i j:Nat}{z y t:Int} (hp:∀w v,Φ p w v->aj w v z i) (hq:∀w v,Φ q w v->aj w v y j) (hx:Φ x=Ni t) (hi:i+j<=1000000) (hr:cj z y=t):ai Φ Tryz.prog ⟨74,[.fact p,.fact q],[oN x],false⟩:=
 dj fun _ _ _ _ h0 h1=>(EL t (hp _ _ (get h0)) (hq _ _ (get h1)) hi hr).mono fun _ _ h=>PU hx h
theorem CA {p i:Nat}{z:Int}{r:Bool} (hp:∀w v,Φ p w v->ak w v z i) (hr:decide (z=0)=r):ai Φ Tryz.prog ⟨94,[.fact p],[oL (.cb r)],false⟩:=
 da fun _ _ _ h0=>(Qf r (hp _ _ (get h0)).1 hr).mono fun _ _ h=>nt h
theorem qX {x:Nat}{t z:Int} (hx:Φ x=Nw t 2) (h1 : -9223372036854775808<=z) (h2:z<=9223372036854775807) (ht:z=t):ai Φ Tryz.prog ⟨75,[.lit (.ci .i64 z)],[⟨iS,[(0,0,x)]⟩],false⟩:=
 da fun _ w v h0=>by
  obtain rfl:v = .int .i64 z:=h0
  exact (vt z h1 h2 ht).mono fun _ _ h=>fF hx h
theorem yD {p q x i j:Nat} (k:Nat){z y t:Int} (hp:∀w v,Φ p w v->aj w v z i) (hq:∀w v,Φ q w v->aj w v y j) (hx:Φ x=Nw t k) (l0:i<=k) (l1:j<=k) (hk:k<=1000000) (ht:(Int.gcd z y:Int)=t):ai Φ Tryz.prog ⟨126,[.row 2 [p,q]],[⟨iS,[(0,0,x)]⟩],false⟩:=
 da fun _ w v h0=>by
  obtain ⟨g,rfl,⟨⟨c0,n0,d0,f0⟩,⟨c1,n1,d1,f1⟩,_⟩⟩:=h0
  have a0:=hp _ _ (f0 w (Off.refl _ _))
  have a1:=hq _ _ (f1 w (Off.refl _ _))
  obtain ⟨b0,p0,m0,k0,e0,a0⟩:=a0.open
  obtain ⟨b1,p1,m1,k1,e1,a1⟩:=a1.open
  obtain rfl:c0 = [.bool b0,.slice p0 m0 k0]:=by simpa using e0
  obtain rfl:c1 = [.bool b1,.slice p1 m1 k1]:=by simpa using e1
  exact (Ev k a0 a1 l0 l1 hk ht (d0 0 _ rfl) (d0 1 _ rfl) (d1 0 _ rfl) (d1 1 _ rfl)).mono fun _ _ h=>fF hx h
theorem jh {p q x i j:Nat}{z:Int}{y:Int}{t:Int} (hp:∀w v,Φ p w v->ae w v z i) (hq:∀w v,Φ q w v->ae w v y j) (hx:Φ x=fun w v=>ae w v t (i+j)) (hi:i+j<=1000000) (ht:z*y=t):ai Φ Tryz.prog ⟨69,[.fact p,.fact q],[⟨dS,[(0,0,x)]⟩],false⟩:=
 dj fun _ _ _ _ h0 h1=>(Ew (hp _ _ (get h0)) (hq _ _ (get h1)) hi ht).mono fun _ _ h=>gU hx h
theorem N6 {p q x i j:Nat}{z:Int}{y:Int}{t:Int} (hp:∀w v,Φ p w v->ae w v z i) (hq:∀w v,Φ q w v->ae w v y j) (hx:Φ x=fun w v=>ae w v t (i+j+1)) (hi:i+j<=1000000) (ht:z+y=t):ai Φ Tryz.prog ⟨90,[.fact p,.fact q],[⟨dS,[(0,0,x)]⟩],false⟩:=
 dj fun _ _ _ _ h0 h1=>(Ez (hp _ _ (get h0)) (hq _ _ (get h1)) hi ht).mono fun _ _ h=>gU hx h
theorem nC {p x i:Nat}{z:Int}{t:Int} (hp:∀w v,Φ p w v->ae w v z i) (hx:Φ x=fun w v=>ae w v t i) (ht : -z=t):ai Φ Tryz.prog ⟨92,[.fact p],[⟨dS,[(0,0,x)]⟩],false⟩:=
 da fun _ _ _ h0=>(vC (hp _ _ (get h0)) ht).mono fun _ _ h=>gU hx h
theorem tTo {p x i:Nat}{z:Int}{t:Int} (hp:∀w v,Φ p w v->ae w v z i) (hx:Φ x=Nw t i) (hi:i<=1000000) (ht:z=t):ai Φ Tryz.prog ⟨54,[.fact p],[⟨iS,[(0,0,x)]⟩],false⟩:=
 da fun _ _ _ h0=>(ht▸ED (hp _ _ (get h0)) hi).mono fun _ _ h=>fF hx h
theorem fP {p i:Nat}{z:Int}{r:Bool} (hp:∀w v,Φ p w v->ae w v z i) (hr:decide (z=0)=r):ai Φ Tryz.prog ⟨100,[.fact p],[oL (.cb r)],false⟩:=
 da fun _ _ _ h0=>(EG (hp _ _ (get h0)) hr).mono fun _ _ h=>nt h
theorem ko {x:Nat}{t z:Int} (hx:Φ x=fun w v=>ae w v t 2) (h1 : -9223372036854775808<=z) (h2:z<=9223372036854775807) (ht:z=t):ai Φ Tryz.prog ⟨64,[.lit (.ci .i64 z)],[⟨dS,[(0,0,x)]⟩],false⟩:=
 da fun _ w v h0=>by
  obtain rfl:v = .int .i64 z:=h0
  exact (pX z h1 h2 ht).mono fun _ _ h=>gU hx h
theorem kA {p q x i j:Nat} (k:Nat){z y t:Int} (hp:∀w v,Φ p w v->ae w v z i) (hq:∀w v,Φ q w v->ae w v y j) (hx:Φ x=fun w v=>ae w v t k) (l0:i<=k) (l1:j<=k) (hk:k+k<=1000000) (ht:(Int.gcd z y:Int)=t):ai Φ Tryz.prog ⟨70,[.fact p,.fact q],[⟨dS,[(0,0,x)]⟩],false⟩:=
 dj fun _ _ _ _ h0 h1=>(EF k (hp _ _ (get h0)) (hq _ _ (get h1)) l0 l1 hk ht).mono fun _ _ h=>gU hx h
end
end Go.Proofs.YthmcngjhkmpneaaGreat.Sym
