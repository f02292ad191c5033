/- poly.Scale: a function value that has captured a number; products of small numbers. -/
import Derived.Test.YtomamliepbhegaaPolH
import Derived.Test.YtomamliepbhegaaPolL
namespace Go.Proofs.Ytomamliepbhegaa.Sym
open Go.RowKit
theorem Ptr.is {sz:Nat}{F:WP}{w:World}{v:Value} (h:Ptr sz F w v):(bn.one .p).is v:=by
 obtain ⟨b,o,rfl,_⟩:=h
 exact ⟨⟨_,rfl⟩,fun _ h=>by cases h⟩
def MJ (f:FuncId) (sz:Nat) (G:WP) (w:World) (v:Value):Prop:=∃p,v = .func (.func f) #[] #[p]∧Ptr sz G w p
theorem MJ.is {f:FuncId}{sz:Nat}{G:WP}{w:World}{v:Value} (h:MJ f sz G w v):(bn.one .fv).is v:=by
 obtain ⟨p,rfl,_⟩:=h
 exact ⟨⟨_,_,rfl⟩,fun _ h=>by cases h⟩
section
variable {P:Program}{Φ:PH}{p q x j k:Nat}{z a b:Int}
theorem nF {c:Int} (hp:∀w v,Φ p w v->v = .int .i64 a) (hq:∀w v,Φ q w v->v = .int .i64 b) (hc:a*b=c) (hx:Φ x=Ni c) (h1 : -9223372036854775808<=c) (h2:c<=9223372036854775807):aj Φ P ⟨0,[.fact p,.fact q],[oN x],.quiet (ai .mul)⟩:=fun X w ac o xs _ hm ha=>by
 obtain ⟨t,y,z,yt,ho,rfl⟩:=iN hm
 refine ⟨.int .i64 c,w,?_,ba w none,cm (aQ c) hx fun _ _=>rfl⟩
 refine gS ho (hp _ _ (ha.1 w (Off.refl _ _))) (hq _ _ (ha.2.1 w (Off.refl _ _))) ?_
 subst hc
 simp [binOp,Op.intArith,IntWalk.i64_in _ ⟨h1,h2⟩]
end
section
variable {Φ:PH}{p q x n k l:Nat}{z:Nat->Int}{y:Int}{L:List Int}
end
end Go.Proofs.Ytomamliepbhegaa.Sym
