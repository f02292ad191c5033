/- Contracts as calls of th -/
import Derived.Test.YtomamliepbhegaaGreatSym
import Derived.Test.YtomamliepbhegaaGreatRats
namespace Go.Proofs.YtomamliepbhegaaGreat.Sym
open Go.Proofs.Tryz
open Go.RowKit
variable {p' s:Option Addr}{f:FuncId}{a:Arg}{outs:List Out}{b b' r be:Bool}{X:Nat->Prop}{w w':World}{c c' i j k n' p x:Nat}{v:Value}{F:World->Value->Prop}{sh:bK}{t y z:Int}{xs ys:List Nat}
def ph (L:List (World->Value->Prop)) (p:Nat):World->Value->Prop:=L.getD p (fun _ _=>True)
def iS:bK:=.agg [.b,.s]
def dS:bK:=.agg [.s,.b]
def qS:bK:=.agg [.b,.s,.b,.s]
def sS:bK:=.agg [.s,.b,.s,.b]
abbrev If (z:Nat->Int) (k i:Nat) (w:World) (v:Value):Prop:=aE w v (z i) k
abbrev Nf (z:Nat->Int) (k i:Nat) (w:World) (v:Value):Prop:=ai w v (z i) k
abbrev Df (z:Nat->Rat) (k i:Nat) (w:World) (v:Value):Prop:=al w v (z i) k
abbrev Iw (z:Int) (k:Nat) (w:World) (v:Value):Prop:=aE w v z k
abbrev Nw (z:Int) (k:Nat) (w:World) (v:Value):Prop:=ai w v z k
abbrev Dw (z:Rat) (k:Nat) (w:World) (v:Value):Prop:=al w v z k
abbrev Ni (z:Int) (_:World) (v:Value):Prop:=v = .int .i64 z
abbrev Nz (z:Nat) (_:World) (v:Value):Prop:=v = .int .i64 (z:Int)
abbrev Nu (z:Int) (_:World) (v:Value):Prop:=v = .int .u64 z
section
variable {P:Program}{Φ:Nat->World->Value->Prop}
theorem all_cons {s:Site}{l:List Site} (h:aj Φ P s) (hl:∀t,t ∈ l->aj Φ P t):∀t,t ∈ s :: l->aj Φ P t:=fun t ht=>by
 rcases List.mem_cons.1 ht with rfl | ht
 ·exact h
 ·exact hl t ht
def post (Φ:Nat->World->Value->Prop) (X:Nat->Prop) (outs:List Out) (be:Bool) (w:World) (e:Ending) (w':World):Prop:=
 w.grownBy w' none∧∃us:List Value,e = .returned (if be then .tuple us.toArray else us.headD undef)∧bp Φ X w' outs us
theorem fW  (h:∀X w v,a.ok Φ X w v->Calls P f #[v] w (post Φ X outs be w)):aj Φ P ⟨f,[a],outs,be⟩:=fun X w vs _ ha=>by
 match vs,ha with
 | [v],ha=>exact h X w v ha.1
theorem fk {b:Arg} (h:∀X w v u,a.ok Φ X w v->b.ok Φ X w u->Calls P f #[v,u] w (post Φ X outs be w)):aj Φ P ⟨f,[a,b],outs,be⟩:=fun X w vs _ ha=>by
 match vs,ha with
 | [v,u],ha=>exact h X w v u ha.1 ha.2.1
theorem get  (h:(Arg.fact p).ok Φ X w v):Φ p w v:=h w (Off.refl _ _)
theorem o1  (hm:∀w w1 v,Kp w w1->F w v->F w1 v) (hp:Φ p=F) (hs:sh.is v) (h:F w v) :
  sh.is v∧∀q,q ∈ [(0,0,p)]->∀w1,Off X w w1->Φ q.2.2 w1 (bw q.1 q.2.1 v):=⟨hs,fun q hq w1 hw=>by
 simp only [List.mem_singleton] at hq
 subst hq
 show Φ p w1 v
 rw [hp];exact hm w w1 v hw.1 h⟩
theorem o0  (hs:sh.is v):sh.is v∧∀q,q ∈ ([]:List (Nat×Nat×Nat))->∀w1,Off X w w1->Φ q.2.2 w1 (bw q.1 q.2.1 v):=⟨hs,fun q hq=>by cases hq⟩
theorem qV {p:Option Addr}{n:Nat}:iS.is (.agg #[.bool b,.slice p n c]):=⟨[.bool b,.slice p n c],rfl,⟨_,rfl⟩,⟨_,_,_,rfl⟩,trivial⟩
theorem LG {p:Option Addr}{n:Nat}:dS.is (.agg #[.slice p n c,.bool b]):=⟨[.slice p n c,.bool b],rfl,⟨_,_,_,rfl⟩,⟨_,rfl⟩,trivial⟩
theorem uu {p:Option Addr}{n:Nat}:qS.is (.agg #[.bool b,.slice p n c,.bool b',.slice p' n' c']):=⟨[.bool b,.slice p n c,.bool b',.slice p' n' c'],rfl,⟨_,rfl⟩,⟨_,_,_,rfl⟩,⟨_,rfl⟩,⟨_,_,_,rfl⟩,trivial⟩
theorem af1 {p:Option Addr}{n:Nat}:sS.is (.agg #[.slice p n c,.bool b,.slice p' n' c',.bool b']):=⟨[.slice p n c,.bool b,.slice p' n' c',.bool b'],rfl,⟨_,_,_,rfl⟩,⟨_,rfl⟩,⟨_,_,_,rfl⟩,⟨_,rfl⟩,trivial⟩
def QV (w:World) (v:Value) (z y:Int) (k:Nat):Prop:=∃b p n c b' p' n' c',v = .agg #[.bool b,.slice p n c,.bool b',.slice p' n' c']∧aE w (.agg #[.bool b,.slice p n c]) z k∧aE w (.agg #[.bool b',.slice p' n' c']) y k
theorem QV.kp  (h:QV w v z y k) (g:Kp w w'):QV w' v z y k:=by
 obtain ⟨b,p,n,c,b',p',n',c',h1,h2,h3⟩:=h
 exact ⟨b,p,n,c,b',p',n',c',h1,h2.kp g,h3.kp g⟩
theorem QV.q  (h:QV w v z y k):fK w v (aR z y) k:=by
 obtain ⟨b,p,n,c,b',p',n',c',h1,h2,h3⟩:=h
 exact ⟨b,p,n,c,b',p',n',c',z,y,h1,h2,h3,rfl⟩
def aT (w:World) (v:Value) (b:Bool) (xs:List Nat):Prop:=∃s,v = .agg #[.bool b,s]∧Sl w .u32 s xs∧All 4294967296 xs
def gp (w:World) (v:Value) (b:Bool) (xs:List Nat) (b':Bool) (ys:List Nat):Prop:=∃s s',v = .agg #[.bool b,s,.bool b',s']∧Sl w .u32 s xs∧All 4294967296 xs∧Sl w .u32 s' ys∧All 4294967296 ys
theorem aT.kp  (h:aT w v b xs) (g:Kp w w'):aT w' v b xs:=by
 obtain ⟨s,h1,h2,h3⟩:=h
 exact ⟨s,h1,h2.kp g,h3⟩
theorem gp.kp  (h:gp w v b xs b' ys) (g:Kp w w'):gp w' v b xs b' ys:=by
 obtain ⟨s,s',h1,h2,h3,h4,h5⟩:=h
 exact ⟨s,s',h1,h2.kp g,h3,h4.kp g,h5⟩
theorem aT.is  (h:aT w v b xs):iS.is v:=by
 obtain ⟨s,rfl,h2,_⟩:=h
 obtain ⟨p,c,rfl,_⟩:=h2
 exact qV
theorem gp.is  (h:gp w v b xs b' ys):qS.is v:=by
 obtain ⟨s,s',rfl,h2,_,h4,_⟩:=h
 obtain ⟨p,c,rfl,_⟩:=h2
 obtain ⟨p',c',rfl,_⟩:=h4
 exact uu
theorem QV.fst  (h:QV w v z y k):aE w (bw 0 2 v) z k:=by obtain ⟨_,_,_,_,_,_,_,_,rfl,h1,_⟩:=h;exact h1
theorem QV.snd  (h:QV w v z y k):aE w (bw 2 2 v) y k:=by obtain ⟨_,_,_,_,_,_,_,_,rfl,_,h2⟩:=h;exact h2
theorem al.fst {q:Rat} (h:al w v q k):af w (bw 0 2 v) q.num k:=by obtain ⟨_,_,_,_,_,_,_,_,rfl,h1,_⟩:=h;exact h1
theorem al.snd {q:Rat} (h:al w v q k):af w (bw 2 2 v) (q.den:Int) k:=by obtain ⟨_,_,_,_,_,_,_,_,rfl,_,h2⟩:=h;exact h2
theorem fK.qv {q:Rat} (h:fK w v q k):∃z y,QV w v z y k∧aR z y=q:=by
 obtain ⟨b,p,n,c,b',p',n',c',z,y,h1,h2,h3,h4⟩:=h
 exact ⟨z,y,⟨b,p,n,c,b',p',n',c',h1,h2,h3⟩,h4⟩
section
variable {q:Rat}
theorem iI:∀w v,aE w v z k->aE w v z k:=fun _ _ h=>h
theorem nI:∀w v,ai w v z k->aE w v z k:=fun _ _ h=>h.i
theorem nN:∀w v,ai w v z k->ai w v z k:=fun _ _ h=>h
theorem dD:∀w v,af w v z k->af w v z k:=fun _ _ h=>h
theorem tS:∀w v,al w v q k->al w v q k:=fun _ _ h=>h
end
section
variable {e:Ending}{t:Rat}{p1 p2:Nat}
theorem LH (hp:Φ p=fun w v=>ai w v z k){n:Nat} (hv:v = .agg #[.bool b,.slice s n c]) (h:ai w v z k):iS.is v∧∀q,q ∈ [(0,0,p)]->∀w1,Off X w w1->Φ q.2.2 w1 (bw q.1 q.2.1 v):=
 o1 (F:=fun w v=>ai w v z k) (fun _ _ _ g h=>ai.kp h g) hp (hv▸qV) h
theorem af2 (hp:Φ p=fun w v=>af w v z k){n:Nat} (hv:v = .agg #[.slice s n c,.bool b]) (h:af w v z k):dS.is v∧∀q,q ∈ [(0,0,p)]->∀w1,Off X w w1->Φ q.2.2 w1 (bw q.1 q.2.1 v):=
 o1 (F:=fun w v=>af w v z k) (fun _ _ _ g h=>af.kp h g) hp (hv▸LG) h
theorem eC.is {q:Rat} (h:eC w v q k):qS.is v:=by obtain ⟨_,_,_,_,_,_,_,_,rfl,_⟩:=h;exact uu
theorem QV.is  (h:QV w v z y k):qS.is v:=by obtain ⟨_,_,_,_,_,_,_,_,rfl,_⟩:=h;exact uu
theorem fK.is {q:Rat} (h:fK w v q k):qS.is v:=by obtain ⟨_,_,_,_,_,_,_,_,_,_,rfl,_⟩:=h;exact uu
theorem al.is {q:Rat} (h:al w v q k):sS.is v:=by obtain ⟨_,_,_,_,_,_,_,_,rfl,_⟩:=h;exact af1
theorem aE.is  (h:aE w v z k):iS.is v:=by
 obtain ⟨b,p,n,c,rfl,_⟩:=h.open;exact qV
theorem ai.is  (h:ai w v z k):iS.is v:=aE.is h.i
theorem af.is  (h:af w v z k):dS.is v:=by
 obtain ⟨p,c,rfl,_⟩:=h;exact LG
theorem al.n {q:Rat} (h:al w v q k):∃p n c b p' n' c' b',v = .agg #[.slice p n c,.bool b,.slice p' n' c',.bool b']∧af w (.agg #[.slice p n c,.bool b]) q.num k∧af w (.agg #[.slice p' n' c',.bool b']) (q.den:Int) k:=h
theorem af3 (hp:Φ p=fun w v=>al w v t k) (h1:Φ p1=fun w v=>af w v t.num k) (h2:Φ p2=fun w v=>af w v (t.den:Int) k) (h:al w v t k) :
  sS.is v∧∀q,q ∈ [(0,0,p),(0,2,p1),(2,2,p2)]->∀w1,Off X w w1->Φ q.2.2 w1 (bw q.1 q.2.1 v):=by
 refine ⟨al.is h,fun q hq w1 hw=>?_⟩
 have h':=h.kp hw.1
 obtain ⟨b,s,n,c,b',s',n',c',rfl,a1,a2⟩:=id h'
 simp only [List.mem_cons,List.not_mem_nil,or_false] at hq
 rcases hq with rfl | rfl | rfl
 ·show Φ p w1 _;rw [hp];exact h'
 ·show Φ p1 w1 _;rw [h1];exact a1
 ·show Φ p2 w1 _;rw [h2];exact a2
theorem jE (hp:Φ p=fun w v=>ai w v z k) (h:lc w z k e w'):post Φ X [⟨iS,[(0,0,p)]⟩] false w e w':=by
 obtain ⟨b,s,n,c,rfl,h1,h2⟩:=h
 exact ⟨h2,[_],rfl,LH hp rfl h1,trivial⟩
theorem af4 (hp:Φ p=fun w v=>ai w v z k) (h:JE w z k e w'):post Φ X [⟨iS,[(0,0,p)]⟩,⟨.one (.lit (.ci .i64 0)),[]⟩] true w e w':=by
 obtain ⟨b,s,n,c,rfl,h1,h2⟩:=h
 exact ⟨h2,[_,_],rfl,LH hp rfl h1,o0 ⟨rfl,fun _ h=>by cases h⟩,trivial⟩
theorem mm (hp:Φ p=fun w v=>af w v z k) (h:gR w z k e w'):post Φ X [⟨dS,[(0,0,p)]⟩] false w e w':=by
 obtain ⟨s,n,c,b,rfl,h1,h2⟩:=h
 exact ⟨h2,[_],rfl,af2 hp rfl h1,trivial⟩
theorem ng (hp:Φ p=fun w v=>al w v t k) (q1:Φ p1=fun w v=>af w v t.num k) (q2:Φ p2=fun w v=>af w v (t.den:Int) k) (h:jr w t k e w'):post Φ X [⟨sS,[(0,0,p),(0,2,p1),(2,2,p2)]⟩] false w e w':=by
 obtain ⟨b,s,n,c,b',s',n',c',rfl,h1,h2⟩:=h
 exact ⟨h2,[_],rfl,af3 hp q1 q2 h1,trivial⟩
theorem LI {a:Atom} (h:e = .returned (a.ev aO)∧w.grownBy w' none) (hn:∀l,a.ev aO≠.agg l):post Φ X [⟨.one (.lit a),[]⟩] false w e w':=by
 obtain ⟨rfl,h2⟩:=h
 exact ⟨h2,[_],rfl,o0 ⟨rfl,hn⟩,trivial⟩
theorem yP  (h:e = .returned (.bool b)∧w.grownBy w' none):post Φ X [⟨.one (.lit (.cb b)),[]⟩] false w e w':=LI h (fun _ h=>by cases h)
theorem aa7 {x:Int} (h:e = .returned (.int .i64 x)∧w.grownBy w' none):post Φ X [⟨.one (.lit (.ci .i64 x)),[]⟩] false w e w':=LI h (fun _ h=>by cases h)
end
inductive Pm where
 | fact (p:Nat) (sh:bK) | lit (a:Atom) | sub (p:Nat) (sh:bK) (fs:List (Nat×Nat×Nat)) | parts (sh:bK) (fs:List (Nat×Nat×Nat))
def Pm.arg:Pm->Arg
 | .fact p _=>.fact p
 | .sub p _ _=>.fact p
 | .lit a=>.lit a
 | .parts sh fs=>.parts sh fs
def Pm.out:Pm->Out
 | .fact p sh=>⟨sh,[(0,0,p)]⟩
 | .sub p sh fs=>⟨sh,(0,0,p) :: fs⟩
 | .lit a=>⟨.one (.lit a),[]⟩
 | .parts sh fs=>⟨sh,fs⟩
def rJ (Φ:Nat->World->Value->Prop) (p:Nat):List (Nat×Nat×Nat)->Prop
 | []=>True
 | q :: l=>(∀w v,Φ p w v->Φ q.2.2 w (bw q.1 q.2.1 v))∧rJ Φ p l
theorem rJ.at {p:Nat}:∀{l:List (Nat×Nat×Nat)},rJ Φ p l->∀q,q ∈ l->∀w v,Φ p w v->Φ q.2.2 w (bw q.1 q.2.1 v)
 | _ :: l,h,q,hq=>by
  rcases List.mem_cons.1 hq with rfl | hq
  ·exact h.1
  ·exact rJ.at h.2 q hq
def Pm.fine (Φ:Nat->World->Value->Prop):Pm->Prop
 | .fact p sh=>∀w v,Φ p w v->sh.is v
 | .sub p sh fs=>(∀w v,Φ p w v->sh.is v)∧rJ Φ p fs
 | .lit a=>∀l,a.ev aO≠.agg l
 | .parts _ _=>True
def LJ (Φ:Nat->World->Value->Prop):List Pm->Prop
 | []=>True
 | x :: xs=>x.fine Φ∧LJ Φ xs
theorem aK:∀(l:List Pm) (_:LJ Φ l) (X:Nat->Prop) (w:World) (vs:List Value),(∀k,X k->k<w.heap.size)->cH Φ X w (l.map Pm.arg) vs->bp Φ X w (l.map Pm.out) vs
 | [],_,_,_,[],_,_=>trivial
 | x :: xs,hf,X,w,v :: vs,hX,ha=>by
  refine ⟨?_,aK xs hf.2 X w vs hX ha.2⟩
  cases x with
  | fact p sh=>
   refine ⟨hf.1 w v (get ha.1),fun q hq w1 hw=>?_⟩
   have hq':q=(0,0,p):=by simpa [Pm.out] using hq
   subst hq'
   exact ha.1 w1 hw
  | sub p sh fs=>
   refine ⟨hf.1.1 w v (get ha.1),fun q hq w1 hw=>?_⟩
   rcases List.mem_cons.1 hq with rfl | hq
   ·exact ha.1 w1 hw
   ·exact hf.1.2.at q hq w1 v (ha.1 w1 hw)
  | lit a=>
   have h0:v=a.ev aO:=ha.1
   subst h0
   exact o0 ⟨rfl,hf.1⟩
  | parts sh fs=>exact ha.1
 | [],_,_,_,_ :: _,_,h=>h.elim
 | _ :: _,_,_,_,[],_,h=>h.elim
theorem QV.join {i j:Nat} (hs:qS.is v) (h1:aE w (bw 0 2 v) z i) (h2:aE w (bw 2 2 v) y j) (hi:i<=k) (hj:j<=k):QV w v z y k:=by
 obtain ⟨vs,rfl,h⟩:=hs
 match vs,h with
 | [v0,v1,v2,v3],h=>
  obtain ⟨⟨b,rfl⟩,⟨p,n,c,rfl⟩,⟨b',rfl⟩,⟨p',n',c',rfl⟩,_⟩:=h
  exact ⟨b,p,n,c,b',p',n',c',rfl,h1.more hi,h2.more hj⟩
section
variable {p1 p2:Nat}
end
section
variable {ar:List Arg}{vs:List Value}{t:Rat}
theorem af5 {fs:List (Nat×Nat×Nat)} (h:aj Φ P ⟨f,ar,[⟨sh,fs⟩],false⟩) (ha:cH Φ (fun _=>False) w ar vs){R:Ending->World->Prop}
  (hR:∀u w',w.grownBy w' none->sh.is u->(∀q,q ∈ fs->Φ q.2.2 w' (bw q.1 q.2.1 u))->R (.returned u) w'):Calls P f vs.toArray w R:=by
 refine (h (fun _=>False) w vs (fun _ h=>h.elim) ha).mono fun e w' ⟨hg,us,he,ho⟩=>?_
 match us,ho with
 | [u],ho=>subst he;exact hR u w' hg ho.1.1 (fun q hq=>ho.1.2 q hq w' (Off.refl _ _))
theorem iR (h:aj Φ P ⟨f,ar,[⟨sS,[(0,0,p)]⟩],false⟩) (hp:Φ p=fun w v=>al w v t k) (ha:cH Φ (fun _=>False) w ar vs):Calls P f vs.toArray w (jr w t k):=
 af5 h ha fun u w' hg _ hf=>by
  have h1:al w' u t k:=by have:=hf (0,0,p) (by simp);rw [hp] at this;exact this
  obtain ⟨s,n,c,b,s',n',c',b',rfl,_⟩:=id h1
  exact ⟨s,n,c,b,s',n',c',b',rfl,h1,hg⟩
end
theorem jt {o o':Out} (h:∀X w v,(o.sh.is v∧∀q,q ∈ o.fs->∀w1,Off X w w1->Φ q.2.2 w1 (bw q.1 q.2.1 v))->o'.sh.is v∧∀q,q ∈ o'.fs->∀w1,Off X w w1->Φ q.2.2 w1 (bw q.1 q.2.1 v)):∀(X:Nat->Prop) (w:World) (us:List Value),bp Φ X w [o] us->bp Φ X w [o'] us:=fun X w us hu=>by
 match us,hu with
 | [u],hu=>exact ⟨h X w u hu.1,trivial⟩
theorem weak  (h:∀w v,Φ p w v->Φ x w v) (X:Nat->Prop) (w:World) (v:Value) (hv:sh.is v∧∀q,q ∈ [(0,0,p)]->∀w1,Off X w w1->Φ q.2.2 w1 (bw q.1 q.2.1 v)):sh.is v∧∀q,q ∈ [(0,0,x)]->∀w1,Off X w w1->Φ q.2.2 w1 (bw q.1 q.2.1 v):=
 ⟨hv.1,fun q hq w1 hw=>by
  simp only [List.mem_singleton] at hq
  subst hq
  exact h w1 _ (hv.2 (0,0,p) (by simp) w1 hw)⟩
theorem halves {p1 p2:Nat} (h:∀w v,sh.is v->Φ p1 w (bw 0 2 v)->Φ p2 w (bw 2 2 v)->Φ x w v) (X:Nat->Prop) (w:World) (v:Value) (hv:sh.is v∧∀q,q ∈ [(0,2,p1),(2,2,p2)]->∀w1,Off X w w1->Φ q.2.2 w1 (bw q.1 q.2.1 v)):sh.is v∧∀q,q ∈ [(0,0,x)]->∀w1,Off X w w1->Φ q.2.2 w1 (bw q.1 q.2.1 v):=
 ⟨hv.1,fun q hq w1 hw=>by
  simp only [List.mem_singleton] at hq
  subst hq
  exact h w1 _ hv.1 (hv.2 (0,2,p1) (by simp) w1 hw) (hv.2 (2,2,p2) (by simp) w1 hw)⟩
theorem eC.join {t:Rat} (hs:qS.is v) (h1:ai w (bw 0 2 v) t.num k) (h2:ai w (bw 2 2 v) (t.den:Int) k):eC w v t k:=by
 obtain ⟨vs,rfl,h⟩:=hs
 match vs,h with
 | [v0,v1,v2,v3],h=>
  obtain ⟨⟨b,rfl⟩,⟨p,n,c,rfl⟩,⟨b',rfl⟩,⟨p',n',c',rfl⟩,_⟩:=h
  exact ⟨b,p,n,c,b',p',n',c',rfl,h1,h2⟩
theorem al.join {t:Rat} (hs:sS.is v) (h1:af w (bw 0 2 v) t.num k) (h2:af w (bw 2 2 v) (t.den:Int) k):al w v t k:=by
 obtain ⟨vs,rfl,h⟩:=hs
 match vs,h with
 | [v0,v1,v2,v3],h=>
  obtain ⟨⟨p,n,c,rfl⟩,⟨b,rfl⟩,⟨p',n',c',rfl⟩,⟨b',rfl⟩,_⟩:=h
  exact ⟨p,n,c,b,p',n',c',b',rfl,h1,h2⟩
theorem DY {ar:List Arg} (h:aj Φ P ⟨f,ar,[⟨.one (.lit (.cb true)),[]⟩],false⟩){vs:List Value} (ha:cH Φ (fun _=>False) w ar vs):Calls P f vs.toArray w (fun e w'=>e = .returned (.bool true)∧w.grownBy w' none):=by
 refine (h (fun _=>False) w vs (fun _ h=>h.elim) ha).mono fun e w' ⟨hg,us,he,ho⟩=>?_
 match us,ho with
 | [u],ho=>
  obtain ⟨⟨⟨h1,_⟩,_⟩,_⟩:=ho
  have h1':u = .bool true:=h1
  subst h1'
  exact ⟨he,hg⟩
theorem ld  (hp:Φ p=F) (hm:∀w w1 v,Kp w w1->F w v->F w1 v) (h:F w v):(Arg.fact p).ok Φ (fun _=>False) w v:=fun w1 hw=>by rw [hp];exact hm w w1 v hw.1 h
end
section
variable {Φ:PH}
theorem jd {q:Nat} (hp:∀w v,Φ p w v->aE w v z i) (hq:∀w v,Φ q w v->aE w v y j) (hx:Φ x=Nw t (i+j)) (ht:z*y=t) (hi:i+j<=1000000:=by omega):aj Φ prog ⟨44,[.fact p,.fact q],[⟨iS,[(0,0,x)]⟩],false⟩:=
 fk fun _ _ _ _ h0 h1=>(acI (hp _ _ (get h0)) (hq _ _ (get h1)) hi ht).mono fun _ _ h=>jE hx h
theorem tA {q:Nat} (hp:∀w v,Φ p w v->aE w v z i) (hq:∀w v,Φ q w v->aE w v y j) (hx:Φ x=Nw t (i+j+1)) (ht:z+y=t) (hi:i+j<=1000000:=by omega):aj Φ prog ⟨43,[.fact p,.fact q],[⟨iS,[(0,0,x)]⟩],false⟩:=
 fk fun _ _ _ _ h0 h1=>(acJ (hp _ _ (get h0)) (hq _ _ (get h1)) hi ht).mono fun _ _ h=>jE hx h
theorem MW {i:Nat} (hp:∀w v,Φ p w v->aE w v z i) (hx:Φ x=Nw t i) (ht : -z=t) (hi:i<=1000000:=by omega):aj Φ prog ⟨65,[.fact p],[⟨iS,[(0,0,x)]⟩],false⟩:=
 fW fun _ _ _ h0=>(acK (hp _ _ (get h0)) hi ht).mono fun _ _ h=>jE hx h
theorem vd {i:Nat} (hp:∀w v,Φ p w v->aE w v z i) (hx:Φ x=Nw t i) (ht:z=t) (hi:i<=1000000:=by omega):aj Φ prog ⟨91,[.fact p],[⟨iS,[(0,0,x)]⟩],false⟩:=
 fW fun _ _ _ h0=>(ht▸acL (hp _ _ (get h0)) hi).mono fun _ _ h=>jE hx h
theorem rR {q:Nat} (hp:∀w v,Φ p w v->aE w v z i) (hq:∀w v,Φ q w v->aE w v y j) (hx:Φ x=Nw t i) (h0':y≠0) (h1':y∣z) (ht:z / y=t) (hi:i+j<=900000:=by omega):aj Φ prog ⟨94,[.fact p,.fact q],[⟨iS,[(0,0,x)]⟩,oL (.ci .i64 0)],true⟩:=
 fk fun _ _ _ _ h0 h1=>(acM (hp _ _ (get h0)) (hq _ _ (get h1)) hi h0' h1' ht).mono fun _ _ h=>af4 hx h
theorem mW {z:Int} (hp:∀w v,Φ p w v->v = .int .i64 z) (hx:Φ x=Nw t 2) (ht:z=t) (h1:-9223372036854775808<=z:=by omega) (h2:z<=9223372036854775807:=by omega):aj Φ prog ⟨54,[.fact p],[⟨iS,[(0,0,x)]⟩],false⟩:=
 fW fun _ w v h0=>by
  obtain rfl:=hp _ _ (get h0)
  exact (JD z h1 h2 ht).mono fun _ _ h=>jE hx h
theorem af6 {e:Ending} (hx:Φ x=Ni t) (h:e = .returned (.int .i64 t)∧w.grownBy w' none):post Φ X [oN x] false w e w':=by
 obtain ⟨rfl,h2⟩:=h
 exact ⟨h2,[_],rfl,o1 (F:=Ni t) (fun _ _ _ _ h=>h) hx ⟨⟨_,rfl⟩,fun _ h=>by cases h⟩ rfl,trivial⟩
theorem oc {q:Nat} (hp:∀w v,Φ p w v->aE w v z i) (hq:∀w v,Φ q w v->aE w v y j) (hx:Φ x=Ni t) (hr:dJ z y=t) (hi:i+j<=1000000:=by omega):aj Φ prog ⟨53,[.fact p,.fact q],[oN x],false⟩:=
 fk fun _ _ _ _ h0 h1=>(QG t (hp _ _ (get h0)) (hq _ _ (get h1)) hi hr).mono fun _ _ h=>af6 hx h
theorem YX {i:Nat} (hp:∀w v,Φ p w v->ai w v z i) (hr:decide (z=0)=r):aj Φ prog ⟨68,[.fact p],[oL (.cb r)],false⟩:=
 fW fun _ _ _ h0=>(LZ r (hp _ _ (get h0)).1 hr).mono fun _ _ h=>yP h
theorem FY  (hx:Φ x=Nw t 2) (ht:z=t) (h1:-9223372036854775808<=z:=by decide) (h2:z<=9223372036854775807:=by decide):aj Φ prog ⟨54,[.lit (.ci .i64 z)],[⟨iS,[(0,0,x)]⟩],false⟩:=
 fW fun _ w v h0=>by
  obtain rfl:v = .int .i64 z:=h0
  exact (JD z h1 h2 ht).mono fun _ _ h=>jE hx h
theorem GB {q j:Nat} (k:Nat) (hp:∀w v,Φ p w v->aE w v z i) (hq:∀w v,Φ q w v->aE w v y j) (hx:Φ x=Nw t k) (ht:(Int.gcd z y:Int)=t) (l0:i<=k:=by omega) (l1:j<=k:=by omega) (hk:k<=1000000:=by omega):aj Φ prog ⟨89,[.row 2 [p,q]],[⟨iS,[(0,0,x)]⟩],false⟩:=
 fW fun _ w v h0=>by
  obtain ⟨g,rfl,⟨⟨c0,n0,d0,f0⟩,⟨c1,n1,d1,f1⟩,_⟩⟩:=h0
  have a0:=hp _ _ (f0 w (Off.refl _ _))
  have a1:=hq _ _ (f1 w (Off.refl _ _))
  obtain ⟨b0,p0,m0,k0,e0,a0⟩:=a0.open
  obtain ⟨b1,p1,m1,k1,e1,a1⟩:=a1.open
  obtain rfl:c0 = [.bool b0,.slice p0 m0 k0]:=by simpa using e0
  obtain rfl:c1 = [.bool b1,.slice p1 m1 k1]:=by simpa using e1
  exact (acN k a0 a1 l0 l1 hk ht (d0 0 _ rfl) (d0 1 _ rfl) (d1 0 _ rfl) (d1 1 _ rfl)).mono fun _ _ h=>jE hx h
theorem gL {q:Nat} (hp:∀w v,Φ p w v->af w v z i) (hq:∀w v,Φ q w v->af w v y j) (hx:Φ x=fun w v=>af w v t (i+j)) (ht:z*y=t) (hi:i+j<=1000000:=by omega):aj Φ prog ⟨46,[.fact p,.fact q],[⟨dS,[(0,0,x)]⟩],false⟩:=
 fk fun _ _ _ _ h0 h1=>(acO (hp _ _ (get h0)) (hq _ _ (get h1)) hi ht).mono fun _ _ h=>mm hx h
theorem Jn {q:Nat} (hp:∀w v,Φ p w v->af w v z i) (hq:∀w v,Φ q w v->af w v y j) (hx:Φ x=fun w v=>af w v t (i+j+1)) (ht:z+y=t) (hi:i+j<=1000000:=by omega):aj Φ prog ⟨56,[.fact p,.fact q],[⟨dS,[(0,0,x)]⟩],false⟩:=
 fk fun _ _ _ _ h0 h1=>(acQ (hp _ _ (get h0)) (hq _ _ (get h1)) hi ht).mono fun _ _ h=>mm hx h
theorem qW  (hp:∀w v,Φ p w v->af w v z i) (hx:Φ x=fun w v=>af w v t i) (ht : -z=t):aj Φ prog ⟨59,[.fact p],[⟨dS,[(0,0,x)]⟩],false⟩:=
 fW fun _ _ _ h0=>(JG (hp _ _ (get h0)) ht).mono fun _ _ h=>mm hx h
theorem abx {i:Nat} (hp:∀w v,Φ p w v->aE w v z i) (hx:Φ x=fun w v=>af w v t i) (ht:z=t) (hi:i<=1000000:=by omega):aj Φ prog ⟨39,[.fact p],[⟨dS,[(0,0,x)]⟩],false⟩:=
 fW fun _ _ _ h0=>(ht▸acS (hp _ _ (get h0)) hi).mono fun _ _ h=>mm hx h
theorem tTo {i:Nat} (hp:∀w v,Φ p w v->af w v z i) (hx:Φ x=Nw t i) (ht:z=t) (hi:i<=1000000:=by omega):aj Φ prog ⟨30,[.fact p],[⟨iS,[(0,0,x)]⟩],false⟩:=
 fW fun _ _ _ h0=>(ht▸acU (hp _ _ (get h0)) hi).mono fun _ _ h=>jE hx h
theorem kj {i:Nat} (hp:∀w v,Φ p w v->af w v z i) (hr:decide (z=0)=r):aj Φ prog ⟨57,[.fact p],[oL (.cb r)],false⟩:=
 fW fun _ _ _ h0=>(acX (hp _ _ (get h0)) hr).mono fun _ _ h=>yP h
theorem og  (hx:Φ x=fun w v=>af w v t 2) (ht:z=t) (h1:-9223372036854775808<=z:=by decide) (h2:z<=9223372036854775807:=by decide):aj Φ prog ⟨40,[.lit (.ci .i64 z)],[⟨dS,[(0,0,x)]⟩],false⟩:=
 fW fun _ w v h0=>by
  obtain rfl:v = .int .i64 z:=h0
  exact (yG z h1 h2 ht).mono fun _ _ h=>mm hx h
theorem lH {q j:Nat} (k:Nat) (hp:∀w v,Φ p w v->af w v z i) (hq:∀w v,Φ q w v->af w v y j) (hx:Φ x=fun w v=>af w v t k) (ht:(Int.gcd z y:Int)=t) (l0:i<=k:=by omega) (l1:j<=k:=by omega) (hk:k+k<=1000000:=by omega):aj Φ prog ⟨47,[.fact p,.fact q],[⟨dS,[(0,0,x)]⟩],false⟩:=
 fk fun _ _ _ _ h0 h1=>(acW k (hp _ _ (get h0)) (hq _ _ (get h1)) l0 l1 hk ht).mono fun _ _ h=>mm hx h
end
end Go.Proofs.YtomamliepbhegaaGreat.Sym
