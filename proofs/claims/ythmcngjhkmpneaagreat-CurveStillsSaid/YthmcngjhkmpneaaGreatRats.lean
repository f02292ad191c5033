/- Contracts in the form in which straight code uses them: results in letters, numbers by equations. Rational numbers in memory; how functions hand them back. -/
import Derived.Test.YthmcngjhkmpneaaGreatGcd
import Derived.Test.YthmcngjhkmpneaaGreatRefK
import Derived.Test.YthmcngjhkmpneaaGreatBx
import Derived.Test.YthmcngjhkmpneaaGreatQuot
import Derived.Test.YthmcngjhkmpneaaGreatStages
namespace Go.Proofs.YthmcngjhkmpneaaGreat
open Go.RowKit
def ak (w:World) (v:Value) (z:Int) (k:Nat):Prop:=c6 w v z∧Bd z.natAbs k
theorem ak.kp {w w':World}{v:Value}{z:Int}{k:Nat} (h:ak w v z k) (g:Kp w w'):ak w' v z k:=⟨h.1.kp g,h.2⟩
theorem ak.grown {w w':World}{v:Value}{z:Int}{k:Nat} (h:ak w v z k) (g:w.grownBy w' none):ak w' v z k:=⟨h.1.grown g,h.2⟩
theorem ak.i {w:World}{v:Value}{z:Int}{k:Nat} (h:ak w v z k):aj w v z k:=h.1.pV h.2
theorem ak.more {w:World}{v:Value}{z:Int}{k l:Nat} (h:ak w v z k) (hl:k<=l):ak w v z l:=⟨h.1,h.2.more hl⟩
theorem ak.eq {w:World}{v:Value}{z y:Int}{k:Nat} (h:ak w v z k) (e:z=y):ak w v y k:=e▸h
theorem aj.open {w:World}{v:Value}{z:Int}{k:Nat} (h:aj w v z k):∃b p n c,v = .agg #[.bool b,.slice p n c]∧aj w v z k:=by
 obtain ⟨b,s,X,rfl,h1,h2⟩:=h
 obtain ⟨p,n,c,rfl⟩:=h1.slice
 exact ⟨b,p,n,c,rfl,b,_,X,rfl,h1,h2⟩
theorem aj.bd' {w:World}{v:Value}{z:Int}{k:Nat} (h:aj w v z k):Bd z.natAbs k:=by
 obtain ⟨b,s,X,rfl,h1,rfl⟩:=h
 rw [cC];exact h1.bd
theorem ae.grow {w w':World}{v:Value}{z:Int}{k:Nat} (h:ae w v z k) (g:w.grownBy w' none):ae w' v z k:=h.grown g
theorem ae.dP {w:World}{v:Value}{z y:Int}{k:Nat} (h:ae w v z k) (e:z=y):ae w v y k:=e▸h
def fZ (w:World) (z:Int) (k:Nat) (e:Ending) (w':World):Prop:=∃b p n c,e = .returned (.agg #[.bool b,.slice p n c])∧ak w' (.agg #[.bool b,.slice p n c]) z k∧w.grownBy w' none
theorem cZ.got {w w':World}{z:Int}{k:Nat}{e:Ending} (h:cZ w z k e w'):fZ w z k e w':=by
 obtain ⟨v,rfl,h1,h2,h3⟩:=h
 obtain ⟨p,c,rfl,-⟩:=id h1
 exact ⟨_,p,_,c,rfl,⟨h1.nor,h2⟩,h3⟩
def ei (w:World) (z:Int) (k:Nat) (e:Ending) (w':World):Prop:=∃p n c b,e = .returned (.agg #[.slice p n c,.bool b])∧ae w' (.agg #[.slice p n c,.bool b]) z k∧w.grownBy w' none
theorem ei.mk {w w':World}{v:Value}{z:Int}{k:Nat} (h1:ae w' v z k) (h3:w.grownBy w' none):ei w z k (.returned v) w':=by
 obtain ⟨p,c,rfl,-⟩:=id h1
 exact ⟨p,_,c,_,rfl,h1,h3⟩
theorem dc.got {w w':World}{z:Int}{k:Nat}{e:Ending} (h:dc w z k e w'):ei w z k e w':=by
 obtain ⟨v,rfl,h1,h2,h3⟩:=h
 exact .mk (h1.vo h2) h3
section
variable {w:World}{v u:Value}{z y t:Int}{i j:Nat}
theorem Em (hx:aj w v z i) (hy:aj w u y j) (hi:i+j<=1000000) (ht:z*y=t):Calls Tryz.prog 44 #[v,u] w (fZ w t (i+j)):=ht▸(pW hx hy hi).mono fun _ _ h=>h.got
theorem En (hx:aj w v z i) (hy:aj w u y j) (hi:i+j<=1000000) (ht:z+y=t):Calls Tryz.prog 67 #[v,u] w (fZ w t (i+j+1)):=ht▸(Eo hx hy hi).mono fun _ _ h=>h.got
theorem Ep (hx:aj w v z i) (hi:i<=1000000) (ht : -z=t):Calls Tryz.prog 106 #[v] w (fZ w t i):=ht▸(Eq hx hi).mono fun _ _ h=>h.got
theorem Er (hx:aj w v z i) (hi:i<=1000000):Calls Tryz.prog 93 #[v] w (fZ w z i):=(Es hx hi).mono fun _ _ h=>h.got
theorem vt (z:Int) (h1 : -9223372036854775808<=z) (h2:z<=9223372036854775807) (ht:z=t):Calls Tryz.prog 75 #[.int .i64 z] w (fZ w t 2):=ht▸(vu z w h1 h2).mono fun _ _ h=>h.got
def vw (w:World) (z:Int) (k:Nat) (e:Ending) (w':World):Prop:=∃b p n c,e = .returned (.tuple #[.agg #[.bool b,.slice p n c],.int .i64 0])∧ak w' (.agg #[.bool b,.slice p n c]) z k∧w.grownBy w' none
theorem Et (hx:aj w v z i) (hy:aj w u y j) (hi:i+j<=900000) (h0:y≠0) (h1:y∣z) (ht:z / y=t):Calls Tryz.prog 128 #[v,u] w (vw w t i):=by
 subst ht
 have hb:Bd (z / y).natAbs i:=hx.bd'.le (Int.natAbs_ediv_le_natAbs ..)
 refine (Eu hx hy hi ⟨h0,Int.emod_eq_zero_of_dvd h1⟩).mono fun e w' h=>?_
 obtain ⟨v,rfl,h2,h3,h4⟩:=h
 obtain ⟨p,c,rfl,-⟩:=id h2
 exact ⟨_,p,_,c,rfl,⟨h2.nor,hb⟩,h4⟩
theorem Ev {g:Nat}{b0 b1:Bool}{p0 p1:Option Addr}{n0 c0 n1 c1:Nat}{z0 z1 t:Int}{k0 k1:Nat} (k:Nat) (h0:aj w (.agg #[.bool b0,.slice p0 n0 c0]) z0 k0) (h1:aj w (.agg #[.bool b1,.slice p1 n1 c1]) z1 k1) (l0:k0<=k) (l1:k1<=k) (hk:k<=1000000) (ht:(Int.gcd z0 z1:Int)=t) (x0:w.cell? ⟨g,0,none⟩=some (.bool b0)) (y0:w.cell? ⟨g,1,none⟩=some (.slice p0 n0 c0)) (x1:w.cell? ⟨g,2,none⟩=some (.bool b1)) (y1:w.cell? ⟨g,3,none⟩=some (.slice p1 n1 c1)) :
  Calls Tryz.prog 126 #[.slice (some ⟨g,0,none⟩) 2 2] w (fZ w t k):=ht▸(El k h0 h1 l0 l1 hk x0 y0 x1 y1).mono fun _ _ h=>h.got
theorem Ew (hx:ae w v z i) (hy:ae w u y j) (hi:i+j<=1000000) (ht:z*y=t):Calls Tryz.prog 69 #[v,u] w (ei w t (i+j)):=ht▸(Ey hx hy hi).mono fun _ _ h=>h.got
theorem Ez (hx:ae w v z i) (hy:ae w u y j) (hi:i+j<=1000000) (ht:z+y=t):Calls Tryz.prog 90 #[v,u] w (ei w t (i+j+1)):=ht▸(vz hx hy hi).mono fun _ _ h=>h.got
theorem vC (hx:ae w v z i) (ht : -z=t):Calls Tryz.prog 92 #[v] w (ei w t i):=by
 subst ht
 refine (vD hx).mono fun e w' h=>?_
 obtain ⟨v,rfl,h1,h2⟩:=h
 exact .mk h1 h2
theorem pX (z:Int) (h1 : -9223372036854775808<=z) (h2:z<=9223372036854775807) (ht:z=t):Calls Tryz.prog 64 #[.int .i64 z] w (ei w t 2):=ht▸(EA z w h1 h2).mono fun _ _ h=>h.got
theorem ED (hx:ae w v z i) (hi:i<=1000000):Calls Tryz.prog 54 #[v] w (fZ w z i):=(EE hx hi).mono fun _ _ h=>h.got
theorem EF (k:Nat) (hx:ae w v z i) (hy:ae w u y j) (l0:i<=k) (l1:j<=k) (hk:k+k<=1000000) (ht:(Int.gcd z y:Int)=t):Calls Tryz.prog 70 #[v,u] w (ei w t k):=by
 subst ht
 refine (Ek (hx.more l0) (hy.more l1) hk).mono fun e w' h=>?_
 obtain ⟨v,rfl,h1,h2⟩:=h
 exact .mk h1 h2
theorem EG (hx:ae w v z i){b:Bool} (hb:decide (z=0)=b):Calls Tryz.prog 100 #[v] w (fun e w'=>e = .returned (.bool b)∧w.grownBy w' none):=hb▸EH hx
end
def bS (w:World) (v:Value) (q:Rat) (k:Nat):Prop:=∃b p n c b' p' n' c' z y,v = .agg #[.bool b,.slice p n c,.bool b',.slice p' n' c']∧aj w (.agg #[.bool b,.slice p n c]) z k∧aj w (.agg #[.bool b',.slice p' n' c']) y k∧aD z y=q
theorem bS.kp {w w':World}{v:Value}{q:Rat}{k:Nat} (h:bS w v q k) (g:Kp w w'):bS w' v q k:=by
 obtain ⟨b,p,n,c,b',p',n',c',z,y,h1,h2,h3,h4⟩:=h
 exact ⟨b,p,n,c,b',p',n',c',z,y,h1,h2.kp g,h3.kp g,h4⟩
theorem bS.grown {w w':World}{v:Value}{q:Rat}{k:Nat} (h:bS w v q k) (g:w.grownBy w' none):bS w' v q k:=h.kp (Kp.of g)
theorem bS.eq {w:World}{v:Value}{q r:Rat}{k:Nat} (h:bS w v q k) (e:q=r):bS w v r k:=e▸h
theorem bS.more {w:World}{v:Value}{q:Rat}{k l:Nat} (h:bS w v q k) (hl:k<=l):bS w v q l:=by
 obtain ⟨b,p,n,c,b',p',n',c',z,y,h1,h2,h3,h4⟩:=h
 exact ⟨b,p,n,c,b',p',n',c',z,y,h1,h2.more hl,h3.more hl,h4⟩
def bk (w:World) (v:Value) (q:Rat) (k:Nat):Prop:=∃b p n c b' p' n' c',v = .agg #[.bool b,.slice p n c,.bool b',.slice p' n' c']∧ak w (.agg #[.bool b,.slice p n c]) q.num k∧ak w (.agg #[.bool b',.slice p' n' c']) (q.den:Int) k
theorem bk.kp {w w':World}{v:Value}{q:Rat}{k:Nat} (h:bk w v q k) (g:Kp w w'):bk w' v q k:=by
 obtain ⟨b,p,n,c,b',p',n',c',h1,h2,h3⟩:=h
 exact ⟨b,p,n,c,b',p',n',c',h1,h2.kp g,h3.kp g⟩
theorem bk.grown {w w':World}{v:Value}{q:Rat}{k:Nat} (h:bk w v q k) (g:w.grownBy w' none):bk w' v q k:=h.kp (Kp.of g)
theorem bk.q {w:World}{v:Value}{q:Rat}{k:Nat} (h:bk w v q k):bS w v q k:=by
 obtain ⟨b,p,n,c,b',p',n',c',h1,h2,h3⟩:=h
 exact ⟨b,p,n,c,b',p',n',c',_,_,h1,h2.i,h3.i,KB q⟩
theorem bk.eq {w:World}{v:Value}{q r:Rat}{k:Nat} (h:bk w v q k) (e:q=r):bk w v r k:=e▸h
theorem bk.more {w:World}{v:Value}{q:Rat}{k l:Nat} (h:bk w v q k) (hl:k<=l):bk w v q l:=by
 obtain ⟨b,p,n,c,b',p',n',c',h1,h2,h3⟩:=h
 exact ⟨b,p,n,c,b',p',n',c',h1,h2.more hl,h3.more hl⟩
def gS (w:World) (q:Rat) (k:Nat) (e:Ending) (w':World):Prop:=∃b p n c b' p' n' c',e = .returned (.agg #[.bool b,.slice p n c,.bool b',.slice p' n' c'])∧bk w' (.agg #[.bool b,.slice p n c,.bool b',.slice p' n' c']) q k∧w.grownBy w' none
theorem gS.eq {w w':World}{q r:Rat}{k:Nat}{e:Ending} (h:gS w q k e w') (hq:q=r):gS w r k e w':=hq▸h
def uI (w:World) (q:Rat) (k:Nat) (e:Ending) (w':World):Prop:=∃b p n c b' p' n' c',e = .returned (.tuple #[.agg #[.bool b,.slice p n c,.bool b',.slice p' n' c'],.int .i64 0])∧bk w' (.agg #[.bool b,.slice p n c,.bool b',.slice p' n' c']) q k∧w.grownBy w' none
def ah (w:World) (v:Value) (q:Rat) (k:Nat):Prop:=∃p n c b p' n' c' b',v = .agg #[.slice p n c,.bool b,.slice p' n' c',.bool b']∧ae w (.agg #[.slice p n c,.bool b]) q.num k∧ae w (.agg #[.slice p' n' c',.bool b']) (q.den:Int) k
theorem ah.kp {w w':World}{v:Value}{q:Rat}{k:Nat} (h:ah w v q k) (g:Kp w w'):ah w' v q k:=by
 obtain ⟨p,n,c,b,p',n',c',b',h1,h2,h3⟩:=h
 exact ⟨p,n,c,b,p',n',c',b',h1,h2.kp g,h3.kp g⟩
theorem ah.grown {w w':World}{v:Value}{q:Rat}{k:Nat} (h:ah w v q k) (g:w.grownBy w' none):ah w' v q k:=h.kp (Kp.of g)
theorem ah.eq {w:World}{v:Value}{q r:Rat}{k:Nat} (h:ah w v q k) (e:q=r):ah w v r k:=e▸h
theorem ah.more {w:World}{v:Value}{q:Rat}{k l:Nat} (h:ah w v q k) (hl:k<=l):ah w v q l:=by
 obtain ⟨p,n,c,b,p',n',c',b',h1,h2,h3⟩:=h
 exact ⟨p,n,c,b,p',n',c',b',h1,h2.more hl,h3.more hl⟩
def fo (w:World) (q:Rat) (k:Nat) (e:Ending) (w':World):Prop:=∃p n c b p' n' c' b',e = .returned (.agg #[.slice p n c,.bool b,.slice p' n' c',.bool b'])∧ah w' (.agg #[.slice p n c,.bool b,.slice p' n' c',.bool b']) q k∧w.grownBy w' none
theorem fo.eq {w w':World}{q r:Rat}{k:Nat}{e:Ending} (h:fo w q k e w') (hq:q=r):fo w r k e w':=hq▸h
theorem KZ {fn:Func}{R:Ending->World->Prop}{a:Act}{w:World}{r g:Nat}{x y:Value} (hres:fn.results = #[ResultVar.cell r 42]) (hd:a.defers = []) (hr:a.tmps[r]?=some (.pointer (some ⟨g,0,none⟩)))
  (c0:w.cell? ⟨g,0,none⟩=some x) (c1:w.cell? ⟨g,1,none⟩=some y) (h:R (.returned (.agg #[x,y])) w):bodyPost Tryz.prog fn R .ret a w:=by
 simp [bodyPost,results,hres,hr,c0,c1,go_sem,h,hd]
theorem K0 {v:Value}{z:Int}{k:Nat}{w:World}{r:Bool} (hx:aj w v z k) (hk:k<=1000000) (hr:decide (z=0)=r) :
  Calls Tryz.prog 162 #[v] w (fun e w'=>e = .returned (.bool r)∧w.grownBy w' none):=by
 subst hr
 obtain ⟨b,s,X,rfl,hx,rfl⟩:=hx
 obtain ⟨p,n,c,rfl⟩:=hx.slice
 have Hx:=Lib.hid hx
 clear hx
 have hz:decide (sg b X=0)=decide (X=0):=decide_eq_decide.2 (by cases b <;> simp [sg])
 rw [hz]
 have hl:=o6 (b:=2) (by omega) (n:=X)
 have e:((((af 2 X).length:Nat):Int) == 0)=decide (X=0):=by
  rw [Bool.eq_iff_iff,beq_iff_eq,decide_eq_true_eq];omega
 have He:=Lib.hid e
 clear e hl hz
 go_enter Tryz.func162,Tryz.ntmps162
 go_wp2_with fail
 with_reducible refine (vH (Hx.out.grown (aF _ _ _)) hk).mono ?_
 rintro e w1 ⟨rfl,rfl⟩
 obtain ⟨l,hl⟩:∃l:Nat,(af 2 X).length=l:=⟨_,rfl⟩
 rw [hl] at He ⊢
 go_wp2_with fail
 go_ret
 exact ⟨by rw [<- He.out];first | rfl | simp,aF _ _ _⟩
end Go.Proofs.YthmcngjhkmpneaaGreat
