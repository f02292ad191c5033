/- Contracts as calls of the symbolic walk: whole numbers, rationals, and the reference's. Contracts of chapter 2 and of the reference's whole numbers as calls of the symbolic walk. -/
import Derived.Test.YtomamliepbhegaaSym
import Derived.Test.YtomamliepbhegaaRats
namespace Go.Proofs.Ytomamliepbhegaa.Sym
open Go.RowKit
def ph (L:List (World->Value->Prop)) (p:Nat):World->Value->Prop:=L.getD p (fun _ _=>True)
def iS:bn:=.agg [.b,.s]
def dS:bn:=.agg [.s,.b]
def qS:bn:=.agg [.b,.s,.b,.s]
def sS:bn:=.agg [.s,.b,.s,.b]
abbrev If (z:Nat->Int) (k i:Nat) (w:World) (v:Value):Prop:=aB w v (z i) k
abbrev Nf (z:Nat->Int) (k i:Nat) (w:World) (v:Value):Prop:=au w v (z i) k
abbrev Df (z:Nat->Rat) (k i:Nat) (w:World) (v:Value):Prop:=am w v (z i) k
abbrev Iw (z:Int) (k:Nat) (w:World) (v:Value):Prop:=aB w v z k
abbrev Nw (z:Int) (k:Nat) (w:World) (v:Value):Prop:=au w v z k
abbrev Dw (z:Rat) (k:Nat) (w:World) (v:Value):Prop:=am w v z k
abbrev Ni (z:Int) (_:World) (v:Value):Prop:=v = .int .i64 z
abbrev Nz (z:Nat) (_:World) (v:Value):Prop:=v = .int .i64 (z:Int)
abbrev Nu (z:Int) (_:World) (v:Value):Prop:=v = .int .u64 z
section
variable {P:Program}{Φ:Nat->World->Value->Prop}
theorem all_nil:∀t,t ∈ ([]:List Site)->aj Φ P t:=fun _ h=>by cases h
theorem all_cons {s:Site}{l:List Site} (h:aj Φ P s) (hl:∀t,t ∈ l->aj Φ P t):∀t,t ∈ s :: l->aj Φ P t:=fun t ht=>by
 rcases List.mem_cons.1 ht with rfl | ht
 ·exact h
 ·exact hl t ht
def post (Φ:Nat->World->Value->Prop) (X:Nat->Prop) (outs:List Out) (aM:Bool) (w:World) (e:Ending) (w':World):Prop:=
 w.grownBy w' none∧∃us:List Value,e = .returned (if aM then .tuple us.toArray else us.headD undef)∧bk Φ X w' outs us
theorem fl {f:FuncId}{a:Arg}{outs:List Out}{aM:Bool} (h:∀X w v,a.ok Φ X w v->Calls P f #[v] w (post Φ X outs aM w)):aj Φ P ⟨f,[a],outs,aM⟩:=fun X w vs _ ha=>by
 match vs,ha with
 | [v],ha=>exact h X w v ha.1
theorem Ld {f:FuncId}{a b:Arg}{outs:List Out}{aM:Bool} (h:∀X w v u,a.ok Φ X w v->b.ok Φ X w u->Calls P f #[v,u] w (post Φ X outs aM w)):aj Φ P ⟨f,[a,b],outs,aM⟩:=fun X w vs _ ha=>by
 match vs,ha with
 | [v,u],ha=>exact h X w v u ha.1 ha.2.1
theorem get {X:Nat->Prop}{w:World}{p:Nat}{v:Value} (h:(Arg.fact p).ok Φ X w v):Φ p w v:=h w (Off.refl _ _)
theorem o1 {F:World->Value->Prop}{X:Nat->Prop}{w:World}{v:Value}{sh:bn}{p:Nat} (hm:∀w w1 v,Kp w w1->F w v->F w1 v) (hp:Φ p=F) (hs:sh.is v) (h:F w v) :
  sh.is v∧∀q,q ∈ [(0,0,p)]->∀w1,Off X w w1->Φ q.2.2 w1 (bh q.1 q.2.1 v):=⟨hs,fun q hq w1 hw=>by
 simp only [List.mem_singleton] at hq
 subst hq
 show Φ p w1 v
 rw [hp];exact hm w w1 v hw.1 h⟩
theorem o0 {X:Nat->Prop}{w:World}{v:Value}{sh:bn} (hs:sh.is v):sh.is v∧∀q,q ∈ ([]:List (Nat×Nat×Nat))->∀w1,Off X w w1->Φ q.2.2 w1 (bh q.1 q.2.1 v):=⟨hs,fun q hq=>by cases hq⟩
theorem kg {b:Bool}{p:Option Addr}{n c:Nat}:iS.is (.agg #[.bool b,.slice p n c]):=⟨[.bool b,.slice p n c],rfl,⟨_,rfl⟩,⟨_,_,_,rfl⟩,trivial⟩
theorem wF {b:Bool}{p:Option Addr}{n c:Nat}:dS.is (.agg #[.slice p n c,.bool b]):=⟨[.slice p n c,.bool b],rfl,⟨_,_,_,rfl⟩,⟨_,rfl⟩,trivial⟩
theorem mM {b b':Bool}{p p':Option Addr}{n c n' c':Nat}:qS.is (.agg #[.bool b,.slice p n c,.bool b',.slice p' n' c']):=⟨[.bool b,.slice p n c,.bool b',.slice p' n' c'],rfl,⟨_,rfl⟩,⟨_,_,_,rfl⟩,⟨_,rfl⟩,⟨_,_,_,rfl⟩,trivial⟩
theorem Kz {b b':Bool}{p p':Option Addr}{n c n' c':Nat}:sS.is (.agg #[.slice p n c,.bool b,.slice p' n' c',.bool b']):=⟨[.slice p n c,.bool b,.slice p' n' c',.bool b'],rfl,⟨_,_,_,rfl⟩,⟨_,rfl⟩,⟨_,_,_,rfl⟩,⟨_,rfl⟩,trivial⟩
def QV (w:World) (v:Value) (z y:Int) (k:Nat):Prop:=∃b p n c b' p' n' c',v = .agg #[.bool b,.slice p n c,.bool b',.slice p' n' c']∧aB w (.agg #[.bool b,.slice p n c]) z k∧aB w (.agg #[.bool b',.slice p' n' c']) y k
theorem QV.kp {w w':World}{v:Value}{z y:Int}{k:Nat} (h:QV w v z y k) (g:Kp w w'):QV w' v z y k:=by
 obtain ⟨b,p,n,c,b',p',n',c',h1,h2,h3⟩:=h
 exact ⟨b,p,n,c,b',p',n',c',h1,h2.kp g,h3.kp g⟩
theorem QV.q {w:World}{v:Value}{z y:Int}{k:Nat} (h:QV w v z y k):dF w v (aN z y) k:=by
 obtain ⟨b,p,n,c,b',p',n',c',h1,h2,h3⟩:=h
 exact ⟨b,p,n,c,b',p',n',c',z,y,h1,h2,h3,rfl⟩
def KR (w:World) (v:Value) (b:Bool) (xs:List Nat):Prop:=∃s,v = .agg #[.bool b,s]∧Sl w .u32 s xs∧All 4294967296 xs
def eT (w:World) (v:Value) (b:Bool) (xs:List Nat) (b':Bool) (ys:List Nat):Prop:=∃s s',v = .agg #[.bool b,s,.bool b',s']∧Sl w .u32 s xs∧All 4294967296 xs∧Sl w .u32 s' ys∧All 4294967296 ys
theorem KR.kp {w w':World}{v:Value}{b:Bool}{xs:List Nat} (h:KR w v b xs) (g:Kp w w'):KR w' v b xs:=by
 obtain ⟨s,h1,h2,h3⟩:=h
 exact ⟨s,h1,h2.kp g,h3⟩
theorem eT.kp {w w':World}{v:Value}{b b':Bool}{xs ys:List Nat} (h:eT w v b xs b' ys) (g:Kp w w'):eT w' v b xs b' ys:=by
 obtain ⟨s,s',h1,h2,h3,h4,h5⟩:=h
 exact ⟨s,s',h1,h2.kp g,h3,h4.kp g,h5⟩
theorem KR.is {w:World}{v:Value}{b:Bool}{xs:List Nat} (h:KR w v b xs):iS.is v:=by
 obtain ⟨s,rfl,h2,_⟩:=h
 obtain ⟨p,c,rfl,_⟩:=h2
 exact kg
theorem eT.is {w:World}{v:Value}{b b':Bool}{xs ys:List Nat} (h:eT w v b xs b' ys):qS.is v:=by
 obtain ⟨s,s',rfl,h2,_,h4,_⟩:=h
 obtain ⟨p,c,rfl,_⟩:=h2
 obtain ⟨p',c',rfl,_⟩:=h4
 exact mM
theorem QV.fst {w:World}{v:Value}{z y:Int}{k:Nat} (h:QV w v z y k):aB w (bh 0 2 v) z k:=by obtain ⟨_,_,_,_,_,_,_,_,rfl,h1,_⟩:=h;exact h1
theorem QV.snd {w:World}{v:Value}{z y:Int}{k:Nat} (h:QV w v z y k):aB w (bh 2 2 v) y k:=by obtain ⟨_,_,_,_,_,_,_,_,rfl,_,h2⟩:=h;exact h2
theorem am.fst {w:World}{v:Value}{q:Rat}{k:Nat} (h:am w v q k):af w (bh 0 2 v) q.num k:=by obtain ⟨_,_,_,_,_,_,_,_,rfl,h1,_⟩:=h;exact h1
theorem am.snd {w:World}{v:Value}{q:Rat}{k:Nat} (h:am w v q k):af w (bh 2 2 v) (q.den:Int) k:=by obtain ⟨_,_,_,_,_,_,_,_,rfl,_,h2⟩:=h;exact h2
section
variable {z y:Int}{q:Rat}{k:Nat}
theorem iI:∀w v,aB w v z k->aB w v z k:=fun _ _ h=>h
theorem nI:∀w v,au w v z k->aB w v z k:=fun _ _ h=>h.i
theorem nN:∀w v,au w v z k->au w v z k:=fun _ _ h=>h
theorem dD:∀w v,af w v z k->af w v z k:=fun _ _ h=>h
end
section
variable {X:Nat->Prop}{w w':World}{e:Ending}{z y:Int}{t:Rat}{k p p1 p2:Nat}
theorem KA (hp:Φ p=fun w v=>au w v z k){v:Value}{b:Bool}{s:Option Addr}{n c:Nat} (hv:v = .agg #[.bool b,.slice s n c]) (h:au w v z k):iS.is v∧∀q,q ∈ [(0,0,p)]->∀w1,Off X w w1->Φ q.2.2 w1 (bh q.1 q.2.1 v):=
 o1 (F:=fun w v=>au w v z k) (fun _ _ _ g h=>au.kp h g) hp (hv▸kg) h
theorem KB (hp:Φ p=fun w v=>af w v z k){v:Value}{b:Bool}{s:Option Addr}{n c:Nat} (hv:v = .agg #[.slice s n c,.bool b]) (h:af w v z k):dS.is v∧∀q,q ∈ [(0,0,p)]->∀w1,Off X w w1->Φ q.2.2 w1 (bh q.1 q.2.1 v):=
 o1 (F:=fun w v=>af w v z k) (fun _ _ _ g h=>af.kp h g) hp (hv▸wF) h
theorem cJ.is {w:World}{v:Value}{q:Rat}{k:Nat} (h:cJ w v q k):qS.is v:=by obtain ⟨_,_,_,_,_,_,_,_,rfl,_⟩:=h;exact mM
theorem QV.is {w:World}{v:Value}{z y:Int}{k:Nat} (h:QV w v z y k):qS.is v:=by obtain ⟨_,_,_,_,_,_,_,_,rfl,_⟩:=h;exact mM
theorem dF.is {w:World}{v:Value}{q:Rat}{k:Nat} (h:dF w v q k):qS.is v:=by obtain ⟨_,_,_,_,_,_,_,_,_,_,rfl,_⟩:=h;exact mM
theorem am.is {w:World}{v:Value}{q:Rat}{k:Nat} (h:am w v q k):sS.is v:=by obtain ⟨_,_,_,_,_,_,_,_,rfl,_⟩:=h;exact Kz
theorem aB.is {w:World}{v:Value}{z:Int}{k:Nat} (h:aB w v z k):iS.is v:=by
 obtain ⟨b,p,n,c,rfl,_⟩:=h.open;exact kg
theorem au.is {w:World}{v:Value}{z:Int}{k:Nat} (h:au w v z k):iS.is v:=aB.is h.i
theorem af.is {w:World}{v:Value}{z:Int}{k:Nat} (h:af w v z k):dS.is v:=by
 obtain ⟨p,c,rfl,_⟩:=h;exact wF
theorem am.n {w:World}{v:Value}{q:Rat}{k:Nat} (h:am w v q k):∃p n c b p' n' c' b',v = .agg #[.slice p n c,.bool b,.slice p' n' c',.bool b']∧af w (.agg #[.slice p n c,.bool b]) q.num k∧af w (.agg #[.slice p' n' c',.bool b']) (q.den:Int) k:=h
theorem KC (hp:Φ p=fun w v=>am w v t k) (h1:Φ p1=fun w v=>af w v t.num k) (h2:Φ p2=fun w v=>af w v (t.den:Int) k){v:Value} (h:am w v t k) :
  sS.is v∧∀q,q ∈ [(0,0,p),(0,2,p1),(2,2,p2)]->∀w1,Off X w w1->Φ q.2.2 w1 (bh q.1 q.2.1 v):=by
 refine ⟨am.is h,fun q hq w1 hw=>?_⟩
 have h':=h.kp hw.1
 obtain ⟨b,s,n,c,b',s',n',c',rfl,a1,a2⟩:=id h'
 simp only [List.mem_cons,List.not_mem_nil,or_false] at hq
 rcases hq with rfl | rfl | rfl
 ·show Φ p w1 _;rw [hp];exact h'
 ·show Φ p1 w1 _;rw [h1];exact a1
 ·show Φ p2 w1 _;rw [h2];exact a2
theorem iQ (hp:Φ p=fun w v=>au w v z k) (h:gW w z k e w'):post Φ X [⟨iS,[(0,0,p)]⟩] false w e w':=by
 obtain ⟨b,s,n,c,rfl,h1,h2⟩:=h
 exact ⟨h2,[_],rfl,KA hp rfl h1,trivial⟩
theorem gm (hp:Φ p=fun w v=>af w v z k) (h:Lj w z k e w'):post Φ X [⟨dS,[(0,0,p)]⟩] false w e w':=by
 obtain ⟨s,n,c,b,rfl,h1,h2⟩:=h
 exact ⟨h2,[_],rfl,KB hp rfl h1,trivial⟩
theorem kh (hp:Φ p=fun w v=>am w v t k) (q1:Φ p1=fun w v=>af w v t.num k) (q2:Φ p2=fun w v=>af w v (t.den:Int) k) (h:fH w t k e w'):post Φ X [⟨sS,[(0,0,p),(0,2,p1),(2,2,p2)]⟩] false w e w':=by
 obtain ⟨b,s,n,c,b',s',n',c',rfl,h1,h2⟩:=h
 exact ⟨h2,[_],rfl,KC hp q1 q2 h1,trivial⟩
theorem wG {a:Atom} (h:e = .returned (a.ev bL)∧w.grownBy w' none) (hn:∀l,a.ev bL≠.agg l):post Φ X [⟨.one (.lit a),[]⟩] false w e w':=by
 obtain ⟨rfl,h2⟩:=h
 exact ⟨h2,[_],rfl,o0 ⟨rfl,hn⟩,trivial⟩
theorem vB {b:Bool} (h:e = .returned (.bool b)∧w.grownBy w' none):post Φ X [⟨.one (.lit (.cb b)),[]⟩] false w e w':=wG h (fun _ h=>by cases h)
theorem Fi {x:Int} (h:e = .returned (.int .i64 x)∧w.grownBy w' none):post Φ X [⟨.one (.lit (.ci .i64 x)),[]⟩] false w e w':=wG h (fun _ h=>by cases h)
end
inductive Pm where
 | fact (p:Nat) (sh:bn) | lit (a:Atom) | sub (p:Nat) (sh:bn) (fs:List (Nat×Nat×Nat)) | parts (sh:bn) (fs:List (Nat×Nat×Nat))
def Pm.arg:Pm->Arg
 | .fact p _=>.fact p
 | .sub p _ _=>.fact p
 | .lit a=>.lit a
 | .parts sh fs=>.parts sh fs
def Pm.out:Pm->Out
 | .fact p sh=>⟨sh,[(0,0,p)]⟩
 | .sub p sh fs=>⟨sh,(0,0,p) :: fs⟩
 | .lit a=>⟨.one (.lit a),[]⟩
 | .parts sh fs=>⟨sh,fs⟩
def kT (Φ:Nat->World->Value->Prop) (p:Nat):List (Nat×Nat×Nat)->Prop
 | []=>True
 | q :: l=>(∀w v,Φ p w v->Φ q.2.2 w (bh q.1 q.2.1 v))∧kT Φ p l
theorem kT.at {p:Nat}:∀{l:List (Nat×Nat×Nat)},kT Φ p l->∀q,q ∈ l->∀w v,Φ p w v->Φ q.2.2 w (bh q.1 q.2.1 v)
 | _ :: l,h,q,hq=>by
  rcases List.mem_cons.1 hq with rfl | hq
  ·exact h.1
  ·exact kT.at h.2 q hq
def Pm.fine (Φ:Nat->World->Value->Prop):Pm->Prop
 | .fact p sh=>∀w v,Φ p w v->sh.is v
 | .sub p sh fs=>(∀w v,Φ p w v->sh.is v)∧kT Φ p fs
 | .lit a=>∀l,a.ev bL≠.agg l
 | .parts _ _=>True
def wH (Φ:Nat->World->Value->Prop):List Pm->Prop
 | []=>True
 | x :: xs=>x.fine Φ∧wH Φ xs
theorem aJ:∀(l:List Pm) (_:wH Φ l) (X:Nat->Prop) (w:World) (vs:List Value),(∀k,X k->k<w.heap.size)->bN Φ X w (l.map Pm.arg) vs->bk Φ X w (l.map Pm.out) vs
 | [],_,_,_,[],_,_=>trivial
 | x :: xs,hf,X,w,v :: vs,hX,ha=>by
  refine ⟨?_,aJ xs hf.2 X w vs hX ha.2⟩
  cases x with
  | fact p sh=>
   refine ⟨hf.1 w v (get ha.1),fun q hq w1 hw=>?_⟩
   have hq':q=(0,0,p):=by simpa [Pm.out] using hq
   subst hq'
   exact ha.1 w1 hw
  | sub p sh fs=>
   refine ⟨hf.1.1 w v (get ha.1),fun q hq w1 hw=>?_⟩
   rcases List.mem_cons.1 hq with rfl | hq
   ·exact ha.1 w1 hw
   ·exact hf.1.2.at q hq w1 v (ha.1 w1 hw)
  | lit a=>
   have h0:v=a.ev bL:=ha.1
   subst h0
   exact o0 ⟨rfl,hf.1⟩
  | parts sh fs=>exact ha.1
 | [],_,_,_,_ :: _,_,h=>h.elim
 | _ :: _,_,_,_,[],_,h=>h.elim
theorem QV.join {w:World}{v:Value}{z y:Int}{i j k:Nat} (hs:qS.is v) (h1:aB w (bh 0 2 v) z i) (h2:aB w (bh 2 2 v) y j) (hi:i<=k) (hj:j<=k):QV w v z y k:=by
 obtain ⟨vs,rfl,h⟩:=hs
 match vs,h with
 | [v0,v1,v2,v3],h=>
  obtain ⟨⟨b,rfl⟩,⟨p,n,c,rfl⟩,⟨b',rfl⟩,⟨p',n',c',rfl⟩,_⟩:=h
  exact ⟨b,p,n,c,b',p',n',c',rfl,h1.more hi,h2.more hj⟩
section
variable {p p1 p2 i j k:Nat}{z y:Int}
end
section
variable {f:FuncId}{ar:List Arg}{w:World}{vs:List Value}{p k:Nat}{z:Int}{t:Rat}
theorem KD {sh:bn}{fs:List (Nat×Nat×Nat)} (h:aj Φ P ⟨f,ar,[⟨sh,fs⟩],false⟩) (ha:bN Φ (fun _=>False) w ar vs){R:Ending->World->Prop}
  (hR:∀u w',w.grownBy w' none->sh.is u->(∀q,q ∈ fs->Φ q.2.2 w' (bh q.1 q.2.1 u))->R (.returned u) w'):Calls P f vs.toArray w R:=by
 refine (h (fun _=>False) w vs (fun _ h=>h.elim) ha).mono fun e w' ⟨hg,us,he,ho⟩=>?_
 match us,ho with
 | [u],ho=>subst he;exact hR u w' hg ho.1.1 (fun q hq=>ho.1.2 q hq w' (Off.refl _ _))
theorem fo (h:aj Φ P ⟨f,ar,[⟨sS,[(0,0,p)]⟩],false⟩) (hp:Φ p=fun w v=>am w v t k) (ha:bN Φ (fun _=>False) w ar vs):Calls P f vs.toArray w (fH w t k):=
 KD h ha fun u w' hg _ hf=>by
  have h1:am w' u t k:=by have:=hf (0,0,p) (by simp);rw [hp] at this;exact this
  obtain ⟨s,n,c,b,s',n',c',b',rfl,_⟩:=id h1
  exact ⟨s,n,c,b,s',n',c',b',rfl,h1,hg⟩
end
theorem fI {o o':Out} (h:∀X w v,(o.sh.is v∧∀q,q ∈ o.fs->∀w1,Off X w w1->Φ q.2.2 w1 (bh q.1 q.2.1 v))->o'.sh.is v∧∀q,q ∈ o'.fs->∀w1,Off X w w1->Φ q.2.2 w1 (bh q.1 q.2.1 v)):∀(X:Nat->Prop) (w:World) (us:List Value),bk Φ X w [o] us->bk Φ X w [o'] us:=fun X w us hu=>by
 match us,hu with
 | [u],hu=>exact ⟨h X w u hu.1,trivial⟩
theorem halves {sh:bn}{p1 p2 x:Nat} (h:∀w v,sh.is v->Φ p1 w (bh 0 2 v)->Φ p2 w (bh 2 2 v)->Φ x w v) (X:Nat->Prop) (w:World) (v:Value) (hv:sh.is v∧∀q,q ∈ [(0,2,p1),(2,2,p2)]->∀w1,Off X w w1->Φ q.2.2 w1 (bh q.1 q.2.1 v)):sh.is v∧∀q,q ∈ [(0,0,x)]->∀w1,Off X w w1->Φ q.2.2 w1 (bh q.1 q.2.1 v):=
 ⟨hv.1,fun q hq w1 hw=>by
  simp only [List.mem_singleton] at hq
  subst hq
  exact h w1 _ hv.1 (hv.2 (0,2,p1) (by simp) w1 hw) (hv.2 (2,2,p2) (by simp) w1 hw)⟩
theorem cJ.join {w:World}{v:Value}{t:Rat}{k:Nat} (hs:qS.is v) (h1:au w (bh 0 2 v) t.num k) (h2:au w (bh 2 2 v) (t.den:Int) k):cJ w v t k:=by
 obtain ⟨vs,rfl,h⟩:=hs
 match vs,h with
 | [v0,v1,v2,v3],h=>
  obtain ⟨⟨b,rfl⟩,⟨p,n,c,rfl⟩,⟨b',rfl⟩,⟨p',n',c',rfl⟩,_⟩:=h
  exact ⟨b,p,n,c,b',p',n',c',rfl,h1,h2⟩
theorem am.join {w:World}{v:Value}{t:Rat}{k:Nat} (hs:sS.is v) (h1:af w (bh 0 2 v) t.num k) (h2:af w (bh 2 2 v) (t.den:Int) k):am w v t k:=by
 obtain ⟨vs,rfl,h⟩:=hs
 match vs,h with
 | [v0,v1,v2,v3],h=>
  obtain ⟨⟨p,n,c,rfl⟩,⟨b,rfl⟩,⟨p',n',c',rfl⟩,⟨b',rfl⟩,_⟩:=h
  exact ⟨p,n,c,b,p',n',c',b',rfl,h1,h2⟩
theorem ek {f:FuncId}{ar:List Arg} (h:aj Φ P ⟨f,ar,[⟨.one (.lit (.cb true)),[]⟩],false⟩){w:World}{vs:List Value} (ha:bN Φ (fun _=>False) w ar vs):Calls P f vs.toArray w (fun e w'=>e = .returned (.bool true)∧w.grownBy w' none):=by
 refine (h (fun _=>False) w vs (fun _ h=>h.elim) ha).mono fun e w' ⟨hg,us,he,ho⟩=>?_
 match us,ho with
 | [u],ho=>
  obtain ⟨⟨⟨h1,_⟩,_⟩,_⟩:=ho
  have h1':u = .bool true:=h1
  subst h1'
  exact ⟨he,hg⟩
theorem iX {p:Nat}{F:World->Value->Prop}{w:World}{v:Value} (hp:Φ p=F) (hm:∀w w1 v,Kp w w1->F w v->F w1 v) (h:F w v):(Arg.fact p).ok Φ (fun _=>False) w v:=fun w1 hw=>by rw [hp];exact hm w w1 v hw.1 h
end
section
variable {Φ:PH}
theorem Eb {p q x i j:Nat}{z:Int}{y:Int}{t:Int} (hp:∀w v,Φ p w v->aB w v z i) (hq:∀w v,Φ q w v->aB w v y j) (hx:Φ x=Nw t (i+j)) (hi:i+j<=1000000) (ht:z*y=t):aj Φ Try.prog ⟨42,[.fact p,.fact q],[⟨iS,[(0,0,x)]⟩],false⟩:=
 Ld fun _ _ _ _ h0 h1=>(Gw (hp _ _ (get h0)) (hq _ _ (get h1)) hi ht).mono fun _ _ h=>iQ hx h
theorem tH {p q x i j:Nat}{z:Int}{y:Int}{t:Int} (hp:∀w v,Φ p w v->aB w v z i) (hq:∀w v,Φ q w v->aB w v y j) (hx:Φ x=Nw t (i+j+1)) (hi:i+j<=1000000) (ht:z+y=t):aj Φ Try.prog ⟨40,[.fact p,.fact q],[⟨iS,[(0,0,x)]⟩],false⟩:=
 Ld fun _ _ _ _ h0 h1=>(Gx (hp _ _ (get h0)) (hq _ _ (get h1)) hi ht).mono fun _ _ h=>iQ hx h
theorem Dx {p x i:Nat}{z:Int}{t:Int} (hp:∀w v,Φ p w v->aB w v z i) (hx:Φ x=Nw t i) (hi:i<=1000000) (ht : -z=t):aj Φ Try.prog ⟨46,[.fact p],[⟨iS,[(0,0,x)]⟩],false⟩:=
 fl fun _ _ _ h0=>(Gy (hp _ _ (get h0)) hi ht).mono fun _ _ h=>iQ hx h
theorem Dp {p x i:Nat}{z:Int}{t:Int} (hp:∀w v,Φ p w v->aB w v z i) (hx:Φ x=Nw t i) (hi:i<=1000000) (ht:z=t):aj Φ Try.prog ⟨37,[.fact p],[⟨iS,[(0,0,x)]⟩],false⟩:=
 fl fun _ _ _ h0=>(ht▸Gz (hp _ _ (get h0)) hi).mono fun _ _ h=>iQ hx h
theorem EY {p x:Nat}{t z:Int} (hp:∀w v,Φ p w v->v = .int .i64 z) (hx:Φ x=Nw t 2) (h1 : -9223372036854775808<=z) (h2:z<=9223372036854775807) (ht:z=t):aj Φ Try.prog ⟨51,[.fact p],[⟨iS,[(0,0,x)]⟩],false⟩:=
 fl fun _ w v h0=>by
  obtain rfl:=hp _ _ (get h0)
  exact (GA z h1 h2 ht).mono fun _ _ h=>iQ hx h
theorem KE {X:Nat->Prop}{w w':World}{e:Ending}{x:Nat}{t:Int} (hx:Φ x=Ni t) (h:e = .returned (.int .i64 t)∧w.grownBy w' none):post Φ X [oN x] false w e w':=by
 obtain ⟨rfl,h2⟩:=h
 exact ⟨h2,[_],rfl,o1 (F:=Ni t) (fun _ _ _ _ h=>h) hx ⟨⟨_,rfl⟩,fun _ h=>by cases h⟩ rfl,trivial⟩
theorem lW {p q x i j:Nat}{z y t:Int} (hp:∀w v,Φ p w v->aB w v z i) (hq:∀w v,Φ q w v->aB w v y j) (hx:Φ x=Ni t) (hi:i+j<=1000000) (hr:cn z y=t):aj Φ Try.prog ⟨45,[.fact p,.fact q],[oN x],false⟩:=
 Ld fun _ _ _ _ h0 h1=>(AN t (hp _ _ (get h0)) (hq _ _ (get h1)) hi hr).mono fun _ _ h=>KE hx h
theorem pi {p x i:Nat}{z:Int}{t:Int} (hp:∀w v,Φ p w v->af w v z i) (hx:Φ x=fun w v=>af w v t i) (ht : -z=t):aj Φ Try.prog ⟨75,[.fact p],[⟨dS,[(0,0,x)]⟩],false⟩:=
 fl fun _ _ _ h0=>(uW (hp _ _ (get h0)) ht).mono fun _ _ h=>gm hx h
theorem FK {p x i:Nat}{z:Int}{t:Int} (hp:∀w v,Φ p w v->aB w v z i) (hx:Φ x=fun w v=>af w v t i) (hi:i<=1000000) (ht:z=t):aj Φ Try.prog ⟨48,[.fact p],[⟨dS,[(0,0,x)]⟩],false⟩:=
 fl fun _ _ _ h0=>(ht▸GF (hp _ _ (get h0)) hi).mono fun _ _ h=>gm hx h
theorem fj {p i:Nat}{z:Int}{r:Bool} (hp:∀w v,Φ p w v->af w v z i) (hr:decide (z=0)=r):aj Φ Try.prog ⟨74,[.fact p],[oL (.cb r)],false⟩:=
 fl fun _ _ _ h0=>(GI (hp _ _ (get h0)) hr).mono fun _ _ h=>vB h
theorem uw {x:Nat}{t z:Int} (hx:Φ x=fun w v=>af w v t 2) (h1 : -9223372036854775808<=z) (h2:z<=9223372036854775807) (ht:z=t):aj Φ Try.prog ⟨31,[.lit (.ci .i64 z)],[⟨dS,[(0,0,x)]⟩],false⟩:=
 fl fun _ w v h0=>by
  obtain rfl:v = .int .i64 z:=h0
  exact (Ml z h1 h2 ht).mono fun _ _ h=>gm hx h
theorem me {p q x i j:Nat} (k:Nat){z y t:Int} (hp:∀w v,Φ p w v->af w v z i) (hq:∀w v,Φ q w v->af w v y j) (hx:Φ x=fun w v=>af w v t k) (l0:i<=k) (l1:j<=k) (hk:k+k<=1000000) (ht:(Int.gcd z y:Int)=t):aj Φ Try.prog ⟨76,[.fact p,.fact q],[⟨dS,[(0,0,x)]⟩],false⟩:=
 Ld fun _ _ _ _ h0 h1=>(GH k (hp _ _ (get h0)) (hq _ _ (get h1)) l0 l1 hk ht).mono fun _ _ h=>gm hx h
end
end Go.Proofs.Ytomamliepbhegaa.Sym
