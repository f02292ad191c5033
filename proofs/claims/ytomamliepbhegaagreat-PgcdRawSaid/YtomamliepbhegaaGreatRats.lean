/- Contracts in the form in -/
import Derived.Test.YtomamliepbhegaaGreatGcd
import Derived.Test.YtomamliepbhegaaGreatStages
namespace Go.Proofs.YtomamliepbhegaaGreat
open Go.Proofs.Tryz
open Go.RowKit
variable {w w':World}{v:Value}{y z:Int}{g k l:Nat}{e:Ending}{r:Rat}
def ai (w:World) (v:Value) (z:Int) (k:Nat):Prop:=gV w v z∧Bd z.natAbs k
theorem ai.kp  (h:ai w v z k) (g:Kp w w'):ai w' v z k:=⟨h.1.kp g,h.2⟩
theorem ai.grown  (h:ai w v z k) (g:w.grownBy w' none):ai w' v z k:=⟨h.1.grown g,h.2⟩
theorem ai.i  (h:ai w v z k):aE w v z k:=h.1.Dx h.2
theorem ai.more {k:Nat} (h:ai w v z k) (hl:k<=l):ai w v z l:=⟨h.1,h.2.more hl⟩
theorem ai.eq  (h:ai w v z k) (e:z=y):ai w v y k:=e▸h
theorem aE.open  (h:aE w v z k):∃b p n c,v = .agg #[.bool b,.slice p n c]∧aE w v z k:=by
 obtain ⟨b,s,X,rfl,h1,h2⟩:=h
 obtain ⟨p,n,c,rfl⟩:=h1.slice
 exact ⟨b,p,n,c,rfl,b,_,X,rfl,h1,h2⟩
theorem aE.bd'  (h:aE w v z k):Bd z.natAbs k:=by
 obtain ⟨b,s,X,rfl,h1,rfl⟩:=h
 rw [eK];exact h1.bd
theorem af.grow  (h:af w v z k) (g:w.grownBy w' none):af w' v z k:=h.grown g
theorem af.fl  (h:af w v z k) (e:z=y):af w v y k:=e▸h
def lc (w:World) (z:Int) (k:Nat) (e:Ending) (w':World):Prop:=∃b p n c,e = .returned (.agg #[.bool b,.slice p n c])∧ai w' (.agg #[.bool b,.slice p n c]) z k∧w.grownBy w' none
theorem eJ.got  (h:eJ w z k e w'):lc w z k e w':=by
 obtain ⟨v,rfl,h1,h2,h3⟩:=h
 obtain ⟨p,c,rfl,-⟩:=id h1
 exact ⟨_,p,_,c,rfl,⟨h1.nor,h2⟩,h3⟩
def gR (w:World) (z:Int) (k:Nat) (e:Ending) (w':World):Prop:=∃p n c b,e = .returned (.agg #[.slice p n c,.bool b])∧af w' (.agg #[.slice p n c,.bool b]) z k∧w.grownBy w' none
theorem gR.mk  (h1:af w' v z k) (h3:w.grownBy w' none):gR w z k (.returned v) w':=by
 obtain ⟨p,c,rfl,-⟩:=id h1
 exact ⟨p,_,c,_,rfl,h1,h3⟩
theorem eT.got  (h:eT w z k e w'):gR w z k e w':=by
 obtain ⟨v,rfl,h1,h2,h3⟩:=h
 exact .mk (h1.JC h2) h3
section
variable {u:Value}{t:Int}{i j:Nat}
theorem acI (hx:aE w v z i) (hy:aE w u y j) (hi:i+j<=1000000) (ht:z*y=t):Calls prog 44 #[v,u] w (lc w t (i+j)):=ht▸(QJ hx hy hi).mono fun _ _ h=>h.got
theorem acJ (hx:aE w v z i) (hy:aE w u y j) (hi:i+j<=1000000) (ht:z+y=t):Calls prog 43 #[v,u] w (lc w t (i+j+1)):=ht▸(DG hx hy hi).mono fun _ _ h=>h.got
theorem acK (hx:aE w v z i) (hi:i<=1000000) (ht : -z=t):Calls prog 65 #[v] w (lc w t i):=ht▸(QC hx hi).mono fun _ _ h=>h.got
theorem acL (hx:aE w v z i) (hi:i<=1000000):Calls prog 91 #[v] w (lc w z i):=(QB hx hi).mono fun _ _ h=>h.got
theorem JD (z:Int) (h1 : -9223372036854775808<=z) (h2:z<=9223372036854775807) (ht:z=t):Calls prog 54 #[.int .i64 z] w (lc w t 2):=ht▸(Rb z w h1 h2).mono fun _ _ h=>h.got
def JE (w:World) (z:Int) (k:Nat) (e:Ending) (w':World):Prop:=∃b p n c,e = .returned (.tuple #[.agg #[.bool b,.slice p n c],.int .i64 0])∧ai w' (.agg #[.bool b,.slice p n c]) z k∧w.grownBy w' none
theorem acM (hx:aE w v z i) (hy:aE w u y j) (hi:i+j<=900000) (h0:y≠0) (h1:y∣z) (ht:z / y=t):Calls prog 94 #[v,u] w (JE w t i):=by
 subst ht
 have hb:Bd (z / y).natAbs i:=hx.bd'.le (Int.natAbs_ediv_le_natAbs ..)
 refine (QU hx hy hi ⟨h0,Int.emod_eq_zero_of_dvd h1⟩).mono fun e w' h=>?_
 obtain ⟨v,rfl,h2,h3,h4⟩:=h
 obtain ⟨p,c,rfl,-⟩:=id h2
 exact ⟨_,p,_,c,rfl,⟨h2.nor,hb⟩,h4⟩
theorem acN {b0 b1:Bool}{p0 p1:Option Addr}{n0 c0 n1 c1:Nat}{z0 z1:Int}{k0 k1:Nat} (k:Nat) (h0:aE w (.agg #[.bool b0,.slice p0 n0 c0]) z0 k0) (h1:aE w (.agg #[.bool b1,.slice p1 n1 c1]) z1 k1) (l0:k0<=k) (l1:k1<=k) (hk:k<=1000000) (ht:(Int.gcd z0 z1:Int)=t) (x0:w.cell? ⟨g,0,none⟩=some (.bool b0)) (y0:w.cell? ⟨g,1,none⟩=some (.slice p0 n0 c0)) (x1:w.cell? ⟨g,2,none⟩=some (.bool b1)) (y1:w.cell? ⟨g,3,none⟩=some (.slice p1 n1 c1)) :
  Calls prog 89 #[.slice (some ⟨g,0,none⟩) 2 2] w (lc w t k):=ht▸(QA k h0 h1 l0 l1 hk x0 y0 x1 y1).mono fun _ _ h=>h.got
theorem acO (hx:af w v z i) (hy:af w u y j) (hi:i+j<=1000000) (ht:z*y=t):Calls prog 46 #[v,u] w (gR w t (i+j)):=ht▸(acP hx hy hi).mono fun _ _ h=>h.got
theorem acQ (hx:af w v z i) (hy:af w u y j) (hi:i+j<=1000000) (ht:z+y=t):Calls prog 56 #[v,u] w (gR w t (i+j+1)):=ht▸(JF hx hy hi).mono fun _ _ h=>h.got
theorem JG (hx:af w v z i) (ht : -z=t):Calls prog 59 #[v] w (gR w t i):=by
 subst ht
 refine (JH hx).mono fun e w' h=>?_
 obtain ⟨v,rfl,h1,h2⟩:=h
 exact .mk h1 h2
theorem yG (z:Int) (h1 : -9223372036854775808<=z) (h2:z<=9223372036854775807) (ht:z=t):Calls prog 40 #[.int .i64 z] w (gR w t 2):=ht▸(acR z w h1 h2).mono fun _ _ h=>h.got
theorem acS (hx:aE w v z i) (hi:i<=1000000):Calls prog 39 #[v] w (gR w z i):=(acT hx hi).mono fun _ _ h=>h.got
theorem acU (hx:af w v z i) (hi:i<=1000000):Calls prog 30 #[v] w (lc w z i):=(acV hx hi).mono fun _ _ h=>h.got
theorem acW (k:Nat) (hx:af w v z i) (hy:af w u y j) (l0:i<=k) (l1:j<=k) (hk:k+k<=1000000) (ht:(Int.gcd z y:Int)=t):Calls prog 47 #[v,u] w (gR w t k):=by
 subst ht
 refine (Qz (hx.more l0) (hy.more l1) hk).mono fun e w' h=>?_
 obtain ⟨v,rfl,h1,h2⟩:=h
 exact .mk h1 h2
theorem acX (hx:af w v z i){b:Bool} (hb:decide (z=0)=b):Calls prog 57 #[v] w (fun e w'=>e = .returned (.bool b)∧w.grownBy w' none):=hb▸acY hx
end
def fK (w:World) (v:Value) (q:Rat) (k:Nat):Prop:=∃b p n c b' p' n' c' z y,v = .agg #[.bool b,.slice p n c,.bool b',.slice p' n' c']∧aE w (.agg #[.bool b,.slice p n c]) z k∧aE w (.agg #[.bool b',.slice p' n' c']) y k∧aR z y=q
theorem fK.kp {q:Rat} (h:fK w v q k) (g:Kp w w'):fK w' v q k:=by
 obtain ⟨b,p,n,c,b',p',n',c',z,y,h1,h2,h3,h4⟩:=h
 exact ⟨b,p,n,c,b',p',n',c',z,y,h1,h2.kp g,h3.kp g,h4⟩
theorem fK.grown {q:Rat} (h:fK w v q k) (g:w.grownBy w' none):fK w' v q k:=h.kp (Kp.of g)
theorem fK.eq {q:Rat} (h:fK w v q k) (e:q=r):fK w v r k:=e▸h
theorem fK.more {q:Rat}{k:Nat} (h:fK w v q k) (hl:k<=l):fK w v q l:=by
 obtain ⟨b,p,n,c,b',p',n',c',z,y,h1,h2,h3,h4⟩:=h
 exact ⟨b,p,n,c,b',p',n',c',z,y,h1,h2.more hl,h3.more hl,h4⟩
def eC (w:World) (v:Value) (q:Rat) (k:Nat):Prop:=∃b p n c b' p' n' c',v = .agg #[.bool b,.slice p n c,.bool b',.slice p' n' c']∧ai w (.agg #[.bool b,.slice p n c]) q.num k∧ai w (.agg #[.bool b',.slice p' n' c']) (q.den:Int) k
theorem eC.kp {q:Rat} (h:eC w v q k) (g:Kp w w'):eC w' v q k:=by
 obtain ⟨b,p,n,c,b',p',n',c',h1,h2,h3⟩:=h
 exact ⟨b,p,n,c,b',p',n',c',h1,h2.kp g,h3.kp g⟩
theorem eC.grown {q:Rat} (h:eC w v q k) (g:w.grownBy w' none):eC w' v q k:=h.kp (Kp.of g)
theorem eC.q {q:Rat} (h:eC w v q k):fK w v q k:=by
 obtain ⟨b,p,n,c,b',p',n',c',h1,h2,h3⟩:=h
 exact ⟨b,p,n,c,b',p',n',c',_,_,h1,h2.i,h3.i,abO q⟩
theorem eC.eq {q:Rat} (h:eC w v q k) (e:q=r):eC w v r k:=e▸h
theorem eC.more {q:Rat}{k:Nat} (h:eC w v q k) (hl:k<=l):eC w v q l:=by
 obtain ⟨b,p,n,c,b',p',n',c',h1,h2,h3⟩:=h
 exact ⟨b,p,n,c,b',p',n',c',h1,h2.more hl,h3.more hl⟩
def yH (w:World) (q:Rat) (k:Nat) (e:Ending) (w':World):Prop:=∃b p n c b' p' n' c',e = .returned (.agg #[.bool b,.slice p n c,.bool b',.slice p' n' c'])∧eC w' (.agg #[.bool b,.slice p n c,.bool b',.slice p' n' c']) q k∧w.grownBy w' none
theorem yH.eq {q:Rat} (h:yH w q k e w') (hq:q=r):yH w r k e w':=hq▸h
def al (w:World) (v:Value) (q:Rat) (k:Nat):Prop:=∃p n c b p' n' c' b',v = .agg #[.slice p n c,.bool b,.slice p' n' c',.bool b']∧af w (.agg #[.slice p n c,.bool b]) q.num k∧af w (.agg #[.slice p' n' c',.bool b']) (q.den:Int) k
theorem al.kp {q:Rat} (h:al w v q k) (g:Kp w w'):al w' v q k:=by
 obtain ⟨p,n,c,b,p',n',c',b',h1,h2,h3⟩:=h
 exact ⟨p,n,c,b,p',n',c',b',h1,h2.kp g,h3.kp g⟩
theorem al.grown {q:Rat} (h:al w v q k) (g:w.grownBy w' none):al w' v q k:=h.kp (Kp.of g)
theorem al.eq {q:Rat} (h:al w v q k) (e:q=r):al w v r k:=e▸h
theorem al.more {q:Rat}{k:Nat} (h:al w v q k) (hl:k<=l):al w v q l:=by
 obtain ⟨p,n,c,b,p',n',c',b',h1,h2,h3⟩:=h
 exact ⟨p,n,c,b,p',n',c',b',h1,h2.more hl,h3.more hl⟩
def jr (w:World) (q:Rat) (k:Nat) (e:Ending) (w':World):Prop:=∃p n c b p' n' c' b',e = .returned (.agg #[.slice p n c,.bool b,.slice p' n' c',.bool b'])∧al w' (.agg #[.slice p n c,.bool b,.slice p' n' c',.bool b']) q k∧w.grownBy w' none
theorem jr.eq {q:Rat} (h:jr w q k e w') (hq:q=r):jr w r k e w':=hq▸h
theorem acZ {fn:Func}{R:Ending->World->Prop}{a:Act}{r:Nat}{x y:Value} (hres:fn.results = #[ResultVar.cell r 42]) (hd:a.defers = []) (hr:a.tmps[r]?=some (.pointer (some ⟨g,0,none⟩)))
  (c0:w.cell? ⟨g,0,none⟩=some x) (c1:w.cell? ⟨g,1,none⟩=some y) (h:R (.returned (.agg #[x,y])) w):bodyPost prog fn R .ret a w:=by
 simp [bodyPost,results,hres,hr,c0,c1,go_sem,h,hd]
end Go.Proofs.YtomamliepbhegaaGreat
