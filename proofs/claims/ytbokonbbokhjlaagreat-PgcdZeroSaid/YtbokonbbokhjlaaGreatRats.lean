/- Rational numbers in memory; how functions hand them back. -/
import Derived.Test.YtbokonbbokhjlaaGreatGot
namespace Go.Proofs.YtbokonbbokhjlaaGreat
open Go.RowKit
def eV (w:World) (v:Value) (q:Rat) (k:Nat):Prop:=∃b p n c b' p' n' c' z y,v = .agg #[.bool b,.slice p n c,.bool b',.slice p' n' c']∧aC w (.agg #[.bool b,.slice p n c]) z k∧aC w (.agg #[.bool b',.slice p' n' c']) y k∧ch z y=q
theorem eV.kp {w w':World}{v:Value}{q:Rat}{k:Nat} (h:eV w v q k) (g:Kp w w'):eV w' v q k:=by
 obtain ⟨b,p,n,c,b',p',n',c',z,y,h1,h2,h3,h4⟩:=h
 exact ⟨b,p,n,c,b',p',n',c',z,y,h1,h2.kp g,h3.kp g,h4⟩
theorem eV.grown {w w':World}{v:Value}{q:Rat}{k:Nat} (h:eV w v q k) (g:w.grownBy w' none):eV w' v q k:=h.kp (Kp.of g)
theorem eV.eq {w:World}{v:Value}{q r:Rat}{k:Nat} (h:eV w v q k) (e:q=r):eV w v r k:=e▸h
theorem eV.more {w:World}{v:Value}{q:Rat}{k l:Nat} (h:eV w v q k) (hl:k<=l):eV w v q l:=by
 obtain ⟨b,p,n,c,b',p',n',c',z,y,h1,h2,h3,h4⟩:=h
 exact ⟨b,p,n,c,b',p',n',c',z,y,h1,h2.more hl,h3.more hl,h4⟩
def d4 (w:World) (v:Value) (q:Rat) (k:Nat):Prop:=∃b p n c b' p' n' c',v = .agg #[.bool b,.slice p n c,.bool b',.slice p' n' c']∧af w (.agg #[.bool b,.slice p n c]) q.num k∧af w (.agg #[.bool b',.slice p' n' c']) (q.den:Int) k
theorem d4.kp {w w':World}{v:Value}{q:Rat}{k:Nat} (h:d4 w v q k) (g:Kp w w'):d4 w' v q k:=by
 obtain ⟨b,p,n,c,b',p',n',c',h1,h2,h3⟩:=h
 exact ⟨b,p,n,c,b',p',n',c',h1,h2.kp g,h3.kp g⟩
theorem d4.grown {w w':World}{v:Value}{q:Rat}{k:Nat} (h:d4 w v q k) (g:w.grownBy w' none):d4 w' v q k:=h.kp (Kp.of g)
theorem d4.q {w:World}{v:Value}{q:Rat}{k:Nat} (h:d4 w v q k):eV w v q k:=by
 obtain ⟨b,p,n,c,b',p',n',c',h1,h2,h3⟩:=h
 exact ⟨b,p,n,c,b',p',n',c',_,_,h1,h2.i,h3.i,Uq q⟩
theorem d4.eq {w:World}{v:Value}{q r:Rat}{k:Nat} (h:d4 w v q k) (e:q=r):d4 w v r k:=e▸h
theorem d4.more {w:World}{v:Value}{q:Rat}{k l:Nat} (h:d4 w v q k) (hl:k<=l):d4 w v q l:=by
 obtain ⟨b,p,n,c,b',p',n',c',h1,h2,h3⟩:=h
 exact ⟨b,p,n,c,b',p',n',c',h1,h2.more hl,h3.more hl⟩
def vO (w:World) (q:Rat) (k:Nat) (e:Ending) (w':World):Prop:=∃b p n c b' p' n' c',e = .returned (.agg #[.bool b,.slice p n c,.bool b',.slice p' n' c'])∧d4 w' (.agg #[.bool b,.slice p n c,.bool b',.slice p' n' c']) q k∧w.grownBy w' none
theorem vO.eq {w w':World}{q r:Rat}{k:Nat}{e:Ending} (h:vO w q k e w') (hq:q=r):vO w r k e w':=hq▸h
def aQ (w:World) (v:Value) (q:Rat) (k:Nat):Prop:=∃p n c b p' n' c' b',v = .agg #[.slice p n c,.bool b,.slice p' n' c',.bool b']∧an w (.agg #[.slice p n c,.bool b]) q.num k∧an w (.agg #[.slice p' n' c',.bool b']) (q.den:Int) k
theorem aQ.kp {w w':World}{v:Value}{q:Rat}{k:Nat} (h:aQ w v q k) (g:Kp w w'):aQ w' v q k:=by
 obtain ⟨p,n,c,b,p',n',c',b',h1,h2,h3⟩:=h
 exact ⟨p,n,c,b,p',n',c',b',h1,h2.kp g,h3.kp g⟩
theorem aQ.grown {w w':World}{v:Value}{q:Rat}{k:Nat} (h:aQ w v q k) (g:w.grownBy w' none):aQ w' v q k:=h.kp (Kp.of g)
theorem aQ.eq {w:World}{v:Value}{q r:Rat}{k:Nat} (h:aQ w v q k) (e:q=r):aQ w v r k:=e▸h
theorem aQ.more {w:World}{v:Value}{q:Rat}{k l:Nat} (h:aQ w v q k) (hl:k<=l):aQ w v q l:=by
 obtain ⟨p,n,c,b,p',n',c',b',h1,h2,h3⟩:=h
 exact ⟨p,n,c,b,p',n',c',b',h1,h2.more hl,h3.more hl⟩
def lH (w:World) (q:Rat) (k:Nat) (e:Ending) (w':World):Prop:=∃p n c b p' n' c' b',e = .returned (.agg #[.slice p n c,.bool b,.slice p' n' c',.bool b'])∧aQ w' (.agg #[.slice p n c,.bool b,.slice p' n' c',.bool b']) q k∧w.grownBy w' none
theorem lH.eq {w w':World}{q r:Rat}{k:Nat}{e:Ending} (h:lH w q k e w') (hq:q=r):lH w r k e w':=hq▸h
theorem Us {fn:Func}{R:Ending->World->Prop}{a:Act}{w:World}{r g:Nat}{x y:Value} (hres:fn.results = #[ResultVar.cell r 56]) (hd:a.defers = []) (hr:a.tmps[r]?=some (.pointer (some ⟨g,0,none⟩)))
  (c0:w.cell? ⟨g,0,none⟩=some x) (c1:w.cell? ⟨g,1,none⟩=some y) (h:R (.returned (.agg #[x,y])) w):bodyPost Tryz.prog fn R .ret a w:=by
 simp [bodyPost,results,hres,hr,c0,c1,go_sem,h,hd]
end Go.Proofs.YtbokonbbokhjlaaGreat
