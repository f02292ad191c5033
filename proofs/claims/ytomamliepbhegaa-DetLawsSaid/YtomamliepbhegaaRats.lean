/- Contracts in the form in which straight code uses them: results in letters, numbers by equations. Rational numbers in memory; how functions hand them back. -/
import Derived.Test.YtomamliepbhegaaGcd
import Derived.Test.YtomamliepbhegaaRefK
import Derived.Test.YtomamliepbhegaaBx
import Derived.Test.YtomamliepbhegaaQuot
import Derived.Test.YtomamliepbhegaaStages
namespace Go.Proofs.Ytomamliepbhegaa
open Go.RowKit
def au (w:World) (v:Value) (z:Int) (k:Nat):Prop:=ew w v z∧Bd z.natAbs k
theorem au.kp {w w':World}{v:Value}{z:Int}{k:Nat} (h:au w v z k) (g:Kp w w'):au w' v z k:=⟨h.1.kp g,h.2⟩
theorem au.grown {w w':World}{v:Value}{z:Int}{k:Nat} (h:au w v z k) (g:w.grownBy w' none):au w' v z k:=⟨h.1.grown g,h.2⟩
theorem au.i {w:World}{v:Value}{z:Int}{k:Nat} (h:au w v z k):aB w v z k:=h.1.sn h.2
theorem au.more {w:World}{v:Value}{z:Int}{k l:Nat} (h:au w v z k) (hl:k<=l):au w v z l:=⟨h.1,h.2.more hl⟩
theorem au.eq {w:World}{v:Value}{z y:Int}{k:Nat} (h:au w v z k) (e:z=y):au w v y k:=e▸h
theorem aB.open {w:World}{v:Value}{z:Int}{k:Nat} (h:aB w v z k):∃b p n c,v = .agg #[.bool b,.slice p n c]∧aB w v z k:=by
 obtain ⟨b,s,X,rfl,h1,h2⟩:=h
 obtain ⟨p,n,c,rfl⟩:=h1.slice
 exact ⟨b,p,n,c,rfl,b,_,X,rfl,h1,h2⟩
theorem aB.bd' {w:World}{v:Value}{z:Int}{k:Nat} (h:aB w v z k):Bd z.natAbs k:=by
 obtain ⟨b,s,X,rfl,h1,rfl⟩:=h
 rw [Lf];exact h1.bd
theorem af.grow {w w':World}{v:Value}{z:Int}{k:Nat} (h:af w v z k) (g:w.grownBy w' none):af w' v z k:=h.grown g
theorem af.Li {w:World}{v:Value}{z y:Int}{k:Nat} (h:af w v z k) (e:z=y):af w v y k:=e▸h
def gW (w:World) (z:Int) (k:Nat) (e:Ending) (w':World):Prop:=∃b p n c,e = .returned (.agg #[.bool b,.slice p n c])∧au w' (.agg #[.bool b,.slice p n c]) z k∧w.grownBy w' none
theorem cY.got {w w':World}{z:Int}{k:Nat}{e:Ending} (h:cY w z k e w'):gW w z k e w':=by
 obtain ⟨v,rfl,h1,h2,h3⟩:=h
 obtain ⟨p,c,rfl,-⟩:=id h1
 exact ⟨_,p,_,c,rfl,⟨h1.nor,h2⟩,h3⟩
def Lj (w:World) (z:Int) (k:Nat) (e:Ending) (w':World):Prop:=∃p n c b,e = .returned (.agg #[.slice p n c,.bool b])∧af w' (.agg #[.slice p n c,.bool b]) z k∧w.grownBy w' none
theorem Lj.mk {w w':World}{v:Value}{z:Int}{k:Nat} (h1:af w' v z k) (h3:w.grownBy w' none):Lj w z k (.returned v) w':=by
 obtain ⟨p,c,rfl,-⟩:=id h1
 exact ⟨p,_,c,_,rfl,h1,h3⟩
theorem cP.got {w w':World}{z:Int}{k:Nat}{e:Ending} (h:cP w z k e w'):Lj w z k e w':=by
 obtain ⟨v,rfl,h1,h2,h3⟩:=h
 exact .mk (h1.uU h2) h3
section
variable {w:World}{v u:Value}{z y t:Int}{i j:Nat}
theorem Gw (hx:aB w v z i) (hy:aB w u y j) (hi:i+j<=1000000) (ht:z*y=t):Calls Try.prog 42 #[v,u] w (gW w t (i+j)):=ht▸(AP hx hy hi).mono fun _ _ h=>h.got
theorem Gx (hx:aB w v z i) (hy:aB w u y j) (hi:i+j<=1000000) (ht:z+y=t):Calls Try.prog 40 #[v,u] w (gW w t (i+j+1)):=ht▸(sC hx hy hi).mono fun _ _ h=>h.got
theorem Gy (hx:aB w v z i) (hi:i<=1000000) (ht : -z=t):Calls Try.prog 46 #[v] w (gW w t i):=ht▸(AJ hx hi).mono fun _ _ h=>h.got
theorem Gz (hx:aB w v z i) (hi:i<=1000000):Calls Try.prog 37 #[v] w (gW w z i):=(AI hx hi).mono fun _ _ h=>h.got
theorem GA (z:Int) (h1 : -9223372036854775808<=z) (h2:z<=9223372036854775807) (ht:z=t):Calls Try.prog 51 #[.int .i64 z] w (gW w t 2):=ht▸(AZ z w h1 h2).mono fun _ _ h=>h.got
theorem uW (hx:af w v z i) (ht : -z=t):Calls Try.prog 75 #[v] w (Lj w t i):=by
 subst ht
 refine (uX hx).mono fun e w' h=>?_
 obtain ⟨v,rfl,h1,h2⟩:=h
 exact .mk h1 h2
theorem Ml (z:Int) (h1 : -9223372036854775808<=z) (h2:z<=9223372036854775807) (ht:z=t):Calls Try.prog 31 #[.int .i64 z] w (Lj w t 2):=ht▸(GE z w h1 h2).mono fun _ _ h=>h.got
theorem GF (hx:aB w v z i) (hi:i<=1000000):Calls Try.prog 48 #[v] w (Lj w z i):=(GG hx hi).mono fun _ _ h=>h.got
theorem GH (k:Nat) (hx:af w v z i) (hy:af w u y j) (l0:i<=k) (l1:j<=k) (hk:k+k<=1000000) (ht:(Int.gcd z y:Int)=t):Calls Try.prog 76 #[v,u] w (Lj w t k):=by
 subst ht
 refine (AH (hx.more l0) (hy.more l1) hk).mono fun e w' h=>?_
 obtain ⟨v,rfl,h1,h2⟩:=h
 exact .mk h1 h2
theorem GI (hx:af w v z i){b:Bool} (hb:decide (z=0)=b):Calls Try.prog 74 #[v] w (fun e w'=>e = .returned (.bool b)∧w.grownBy w' none):=hb▸GJ hx
end
def dF (w:World) (v:Value) (q:Rat) (k:Nat):Prop:=∃b p n c b' p' n' c' z y,v = .agg #[.bool b,.slice p n c,.bool b',.slice p' n' c']∧aB w (.agg #[.bool b,.slice p n c]) z k∧aB w (.agg #[.bool b',.slice p' n' c']) y k∧aN z y=q
theorem dF.kp {w w':World}{v:Value}{q:Rat}{k:Nat} (h:dF w v q k) (g:Kp w w'):dF w' v q k:=by
 obtain ⟨b,p,n,c,b',p',n',c',z,y,h1,h2,h3,h4⟩:=h
 exact ⟨b,p,n,c,b',p',n',c',z,y,h1,h2.kp g,h3.kp g,h4⟩
theorem dF.grown {w w':World}{v:Value}{q:Rat}{k:Nat} (h:dF w v q k) (g:w.grownBy w' none):dF w' v q k:=h.kp (Kp.of g)
theorem dF.eq {w:World}{v:Value}{q r:Rat}{k:Nat} (h:dF w v q k) (e:q=r):dF w v r k:=e▸h
theorem dF.more {w:World}{v:Value}{q:Rat}{k l:Nat} (h:dF w v q k) (hl:k<=l):dF w v q l:=by
 obtain ⟨b,p,n,c,b',p',n',c',z,y,h1,h2,h3,h4⟩:=h
 exact ⟨b,p,n,c,b',p',n',c',z,y,h1,h2.more hl,h3.more hl,h4⟩
def cJ (w:World) (v:Value) (q:Rat) (k:Nat):Prop:=∃b p n c b' p' n' c',v = .agg #[.bool b,.slice p n c,.bool b',.slice p' n' c']∧au w (.agg #[.bool b,.slice p n c]) q.num k∧au w (.agg #[.bool b',.slice p' n' c']) (q.den:Int) k
theorem cJ.kp {w w':World}{v:Value}{q:Rat}{k:Nat} (h:cJ w v q k) (g:Kp w w'):cJ w' v q k:=by
 obtain ⟨b,p,n,c,b',p',n',c',h1,h2,h3⟩:=h
 exact ⟨b,p,n,c,b',p',n',c',h1,h2.kp g,h3.kp g⟩
theorem cJ.grown {w w':World}{v:Value}{q:Rat}{k:Nat} (h:cJ w v q k) (g:w.grownBy w' none):cJ w' v q k:=h.kp (Kp.of g)
theorem cJ.q {w:World}{v:Value}{q:Rat}{k:Nat} (h:cJ w v q k):dF w v q k:=by
 obtain ⟨b,p,n,c,b',p',n',c',h1,h2,h3⟩:=h
 exact ⟨b,p,n,c,b',p',n',c',_,_,h1,h2.i,h3.i,Oy q⟩
theorem cJ.eq {w:World}{v:Value}{q r:Rat}{k:Nat} (h:cJ w v q k) (e:q=r):cJ w v r k:=e▸h
theorem cJ.more {w:World}{v:Value}{q:Rat}{k l:Nat} (h:cJ w v q k) (hl:k<=l):cJ w v q l:=by
 obtain ⟨b,p,n,c,b',p',n',c',h1,h2,h3⟩:=h
 exact ⟨b,p,n,c,b',p',n',c',h1,h2.more hl,h3.more hl⟩
def Mm (w:World) (q:Rat) (k:Nat) (e:Ending) (w':World):Prop:=∃b p n c b' p' n' c',e = .returned (.agg #[.bool b,.slice p n c,.bool b',.slice p' n' c'])∧cJ w' (.agg #[.bool b,.slice p n c,.bool b',.slice p' n' c']) q k∧w.grownBy w' none
theorem Mm.eq {w w':World}{q r:Rat}{k:Nat}{e:Ending} (h:Mm w q k e w') (hq:q=r):Mm w r k e w':=hq▸h
def am (w:World) (v:Value) (q:Rat) (k:Nat):Prop:=∃p n c b p' n' c' b',v = .agg #[.slice p n c,.bool b,.slice p' n' c',.bool b']∧af w (.agg #[.slice p n c,.bool b]) q.num k∧af w (.agg #[.slice p' n' c',.bool b']) (q.den:Int) k
theorem am.kp {w w':World}{v:Value}{q:Rat}{k:Nat} (h:am w v q k) (g:Kp w w'):am w' v q k:=by
 obtain ⟨p,n,c,b,p',n',c',b',h1,h2,h3⟩:=h
 exact ⟨p,n,c,b,p',n',c',b',h1,h2.kp g,h3.kp g⟩
theorem am.grown {w w':World}{v:Value}{q:Rat}{k:Nat} (h:am w v q k) (g:w.grownBy w' none):am w' v q k:=h.kp (Kp.of g)
theorem am.eq {w:World}{v:Value}{q r:Rat}{k:Nat} (h:am w v q k) (e:q=r):am w v r k:=e▸h
theorem am.more {w:World}{v:Value}{q:Rat}{k l:Nat} (h:am w v q k) (hl:k<=l):am w v q l:=by
 obtain ⟨p,n,c,b,p',n',c',b',h1,h2,h3⟩:=h
 exact ⟨p,n,c,b,p',n',c',b',h1,h2.more hl,h3.more hl⟩
def fH (w:World) (q:Rat) (k:Nat) (e:Ending) (w':World):Prop:=∃p n c b p' n' c' b',e = .returned (.agg #[.slice p n c,.bool b,.slice p' n' c',.bool b'])∧am w' (.agg #[.slice p n c,.bool b,.slice p' n' c',.bool b']) q k∧w.grownBy w' none
theorem fH.eq {w w':World}{q r:Rat}{k:Nat}{e:Ending} (h:fH w q k e w') (hq:q=r):fH w r k e w':=hq▸h
theorem GK {fn:Func}{R:Ending->World->Prop}{a:Act}{w:World}{r g:Nat}{x y:Value} (hres:fn.results = #[ResultVar.cell r 61]) (hd:a.defers = []) (hr:a.tmps[r]?=some (.pointer (some ⟨g,0,none⟩)))
  (c0:w.cell? ⟨g,0,none⟩=some x) (c1:w.cell? ⟨g,1,none⟩=some y) (h:R (.returned (.agg #[x,y])) w):bodyPost Try.prog fn R .ret a w:=by
 simp [bodyPost,results,hres,hr,c0,c1,go_sem,h,hd]
end Go.Proofs.Ytomamliepbhegaa
